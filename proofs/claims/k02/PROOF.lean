import PyProof.Rows.All
import PySem.Challenge.RW_metnumbers_k02_parties_recognized
import HandS.ForMost
import HandS.ForExc
import HandS.TupAny
import HandS.TupMul
import HandS.Conv
import HandS.IsInst
import HandS.Zip
import HandS.Deep
import HandS.Style
import HandS.Wide
import PyProof.ReprRoads
import PyProof.TupleOfSeq
import HandS.SortInts
import HandS.SortRule
set_option Elab.async false
set_option linter.all false
set_option maxRecDepth 100000
set_option maxHeartbeats 4000001
namespace DL
open PySem PySem.Spec PyProof.Rows L2

/-- as FnOk, where no repr is under way -/
structure FnG (P : Program) (w : World) (K : PySem.W.Frag) (mg : Str → Option Value)
    (base : Heap) (CX : CXT) (k : Nat) (f : Addr) (fd : FuncData) (ps : List Str) (sp : Sp) : Prop where
  len : ∀ vs H Q E, sp vs H Q E → vs.length = ps.length
  run : ∀ (A : Around) (outer : List Env) (s : Shared) (H : Hp) (args : Args)
      (us : List Value) (vs : List V) (Q : VK) (E : XK),
    A.guards = some [] → Room k A → Env0 P w K mg base A outer s H →
    BindsTo s fd args (ps.zip us) → Vals vs us → sp vs H Q E →
    codeAny (model P w) A (.call (.ref f) args) (CR CX outer P w H s Q E) s

section
variable {P : Program} {w : World} {K : PySem.W.Frag} {mg : Str → Option Value} {base : Heap}
theorem FnG.of {CX : CXT} {k : Nat} {f : Addr} {fd : FuncData} {ps : List Str} {sp : Sp}
    (F : FnOk P w K mg base CX k f fd ps sp) : FnG P w K mg base CX k f fd ps sp :=
  ⟨F.len, fun A o s H a us vs Q E _ => F.run A o s H a us vs Q E⟩
theorem FnG.mono {CX : CXT} {j k : Nat} {f : Addr} {fd : FuncData} {ps : List Str} {sp : Sp}
    (F : FnG P w K mg base CX j f fd ps sp) (h : j ≤ k) : FnG P w K mg base CX k f fd ps sp :=
  ⟨F.len, fun A o s H a us vs Q E hg hr => F.run A o s H a us vs Q E hg (hr.mono h)⟩
theorem FnG.imp {CX : CXT} {k : Nat} {f : Addr} {fd : FuncData} {ps : List Str} {sp sp' : Sp}
    (F : FnG P w K mg base CX k f fd ps sp) (h : ∀ vs H Q E, sp' vs H Q E → sp vs H Q E) :
    FnG P w K mg base CX k f fd ps sp' :=
  ⟨fun vs H Q E q => F.len vs H Q E (h _ _ _ _ q),
   fun A o s H a us vs Q E hg hr e0 hb hv hs => F.run A o s H a us vs Q E hg hr e0 hb hv (h _ _ _ _ hs)⟩

/-- a def by its body -/
theorem fnG_of {CX : CXT} {k : Nat} {f : Addr} {name qual : Str} {params : Arguments}
    {body : List Stmt} {scope : Scope} {dV kV doc pm cdv ct oc : Value} {an od : Option Addr}
    {osl : Array (Option Value)} {N ps : List Str} {sp : Sp}
    (lk : K.lookup f = some ⟨oc, od,
      .func (PySem.W.fnOf name qual params body scope dV kV doc pm an cdv ct), osl⟩)
    (hcd : PySem.W.codeIn K cdv qual = true) (S : FnScope N ps scope)
    (len : ∀ vs H Q E, sp vs H Q E → vs.length = ps.length)
    (hbody : ∀ (A : Around) (outer : List Env) (s : Shared) (H : Hp) (vs : List V) (Q : VK) (E : XK),
      A.guards = some [] →
      Room k (A.deeper (envOfC qual scope s.heap.objs.size f cdv)) → sp vs H Q E →
      ∃ t, PSs (cxOf CX P w K mg base N qual scope f cdv A outer s H E) body t ∧
        t { nx := fun _ H' => Q .non H', rt := Q } (start N vs) H) :
    FnG P w K mg base CX (k + 1) f
      (PySem.W.fnOf name qual params body scope dV kV doc pm an cdv ct) ps sp := by
  refine ⟨len, fun A outer s H args us vs Q E hg hr e0 hb r hsp => ?_⟩
  have hl := len _ _ _ _ hsp
  have kin : K.In s.heap := e0.mod.kin.keeps fun b o e => (e0.bs b o e).1
  have nol : s.heap.NoLimit := e0.mod.nolimit.keeps fun b o e => (e0.bs b o e).1
  have kinds : ∀ y ∈ ps.zip us, scope.names.lookup y.1 = some .local ∨
      (scope.names.lookup y.1 = some .cell ∧
        ((cellsFrom (s.heap.objs.size + 1) scope.names []).lookup y.1).isSome = true) := by
    rintro ⟨n, v⟩ hy
    rcases S.par n (List.of_mem_zip hy).1 with q | q
    · exact .inl q
    · exact .inr ⟨q, PySem.W.cellsFrom_some _ _ _ (.inl q)⟩
  refine codeAny_call_function hr.depth (kin _ _ lk) rfl S.co S.gen rfl
    (PySem.W.codeRec_of kin hcd) (hb _ _ _ _ ?_)
  refine wpAny_newFunctionEnv_cells S.kind kinds fun env he s1 x => ?_
  subst he
  refine ⟨nol.keeps x.toInCall.keep, codeAny_func ?_⟩
  obtain ⟨t, ht, hq⟩ := hbody A outer s H vs Q E hg (hr.deeper _) hsp
  have I := inv_start (CX := CX) (E := E) S hr.hd e0 hl r x
  refine wpAny_mono (ht.run [] s1 _ H _ I hq) (fun fl s' hs => ?_) fun e s' hs => hs
  cases fl with
  | ret u =>
    obtain ⟨v, σ', H', J, rv, q⟩ := hs
    exact ⟨v, H', J.os, J.bare, J.base, J.hok, rv, q⟩
  | next =>
    obtain ⟨σ', H', J, q⟩ := hs
    exact ⟨V.non, H', J.os, J.bare, J.base, J.hok, rfl, q⟩
  | brk => obtain ⟨_, _, _, q⟩ := hs; exact q.elim
  | cont => obtain ⟨_, _, _, q⟩ := hs; exact q.elim

theorem funG_ok {CX : CXT} {x qual : Str} {st : Stmt} {f : Addr} {fd : FuncData} {N ps : List Str} {k : Nat} {sp : Sp}
    (F : Fun K x qual st f fd) (S : FnScope N ps (defScope st))
    (len : ∀ vs H Q E, sp vs H Q E → vs.length = ps.length)
    (hbody : ∀ (cdv : Value) (A : Around) (outer : List Env) (s : Shared) (H : Hp) (vs : List V) (Q : VK) (E : XK),
      A.guards = some [] →
      Room k (A.deeper (envOfC qual (defScope st) s.heap.objs.size f cdv)) → sp vs H Q E →
      ∃ t, PSs (cxOf CX P w K mg base N qual (defScope st) f cdv A outer s H E) (defBody st) t ∧
        t { nx := fun _ H' => Q .non H', rt := Q } (start N vs) H) :
    FnG P w K mg base CX (k + 1) f fd ps sp := by
  obtain ⟨oc, od, kV, doc, pm, an, cdv, ct, osl, rfl, lk, hcd⟩ := F.ex
  exact fnG_of lk hcd S len fun A o s H vs Q E hg hr h => hbody cdv A o s H vs Q E hg hr h
end

section
variable {X : Cx} {CX : CXT} {k : Nat} {f : Addr} {fd : FuncData} {ps : List Str} {sp : Sp}
  {dvs : List V} {ds : List Value} {E : XK} {x : Str} {p pos : Pos} {e : Expr} {es : List Expr} {t : TA}
theorem runG {pins : List (Addr × Obj)} {σ : L2.St} {H : Hp} {s : Shared} {Q : VK} {us : List Value} {vs : List V}
    (F : FnG X.prog X.w X.K X.mg X.base CX k f fd ps sp) (hg : X.A.guards = some []) (hr : Room k X.A)
    (hb : Binds X.K fd ps ds) (hd : Vals dvs ds) (hx : Passes CX X E)
    (I : Inv X pins σ H s) (r : Vals vs us) (h : sp (vs ++ dvs) H Q E) :
    wpAny (model X.prog X.w) X.A (call (.ref f) us) (EP X pins σ Q) X.xe s := by
  have r2 := r.append hd
  have hl : (us ++ ds).length = ps.length := r2.length ▸ F.len _ _ _ _ h
  refine wpAny_call (codeAny_mono (F.run X.A X.stack s H ⟨us, []⟩ (us ++ ds) (vs ++ dvs) Q E hg hr I.env0
    (hb s us I.kIn hl) r2 h) fun r s' hq => ?_)
  match r, hq with
  | .error e, hq => exact hx pins σ H s e s' I hq
  | .ok (.ret u), hq => exact I.after hq
theorem pe_callG (F : FnG X.prog X.w X.K X.mg X.base CX k f fd ps sp) (hg : X.A.guards = some []) (hr : Room k X.A)
    (hgl : Gl X x) (hm : X.mg x = some (.ref f)) (hk : PySem.W.keepIn X.K (.ref f) = true)
    (hb : Binds X.K fd ps ds) (hd : Vals dvs ds) (hx : Passes CX X E) (ha : PA X (e :: es) t)
    (hdb : (x == ("__debug__" : Str)) = false := by decide)
    (he : starEach (e :: es) X.env = (false, eval e X.env) :: starEach es X.env := by rfl)
    (hpl : (backTo pos (starEach es X.env)).any (·.1) = false := by rfl) :
    PE X (.Call (.Name x p) (e :: es) [] pos) (tCall sp dvs E t) := by
  refine ⟨fun pins s σ H Q I h => wpAny_Call_Name_kw (ld_glob I hgl hm ?_ hdb)⟩
  refine PySem.W.callWith_K (h₀ := X.base) I.ok.mod.kin hk ?_ he hpl
  exact thn (ha.run pos pins s σ H _ I h) fun us s1 ⟨vs, H1, I1, r, q⟩ =>
    ⟨I1.kIn, runG F hg hr hb hd hx I1 r q⟩
end

/-- the law's call -/
theorem lawG {P : Program} {w : World} {K : PySem.W.Frag} {mg mb : Str → Option Value} {CX : CXT} {k : Nat}
    {fa a : Addr} {fd : FuncData} {x : Str} {sp : Sp} {s₁ : Shared} {vs : List Value} {ns : List Int}
    (KX : K.In s₁.heap) (hns : s₁.heap.Ns mainGlobals mg) (hb : s₁.heap.Ns builtinsNs mb)
    (hbb : ∀ x : Str, x ≠ "__name__" → mb x = bootBuiltins x) (hlim : s₁.heap.NoLimit) (hg : s₁.gens = #[])
    (ha : s₁.heap.get? a = some { cls := .type "list", data := .seq vs.toArray }) (hi : IntsAre vs ns)
    (hl : ns.length ≤ sizeLine) (hr : Room k callerA)
    (F : ∀ base : Heap, K.In base → base.Ns mainGlobals mg → FnG P w K mg base CX k fa fd [x] sp)
    (hbind : ∀ (s : Shared) (u : Value), BindsTo s fd ⟨[u], []⟩ [(x, u)])
    (hsp : ∀ H : Hp, SqL K H a (ns.map V.int) → sp [.ref a] H (fun v _ => v = .bl true) fun _ _ _ => False)
    (hCX : ∀ H e s', CX [] H s₁ (fun _ _ _ => False) e s' → False) :
    codeAny (model P w) callerA (.call (.ref fa) ⟨[.ref a], []⟩)
      (fun r s' => r = .ok (.ret (.bool true)) ∧ OldK s₁.heap s'.heap ∧ s'.os = s₁.os ∧ AllBare s'.gens) s₁ := by
  have rv := vals_ints hi
  have lenV := hi.length
  have core : ∀ H : Hp, (∀ b u, H b = some u → b = a ∧ K.lookup b = none ∧ ∃ xs, u = .frz { cls := .type "list", data := .seq vs.toArray } (.lst xs)) →
      SqL K H a (ns.map V.int) → HOk P w H s₁.heap →
      codeAny (model P w) callerA (.call (.ref fa) ⟨[.ref a], []⟩)
        (fun r s' => r = .ok (.ret (.bool true)) ∧ OldK s₁.heap s'.heap ∧ s'.os = s₁.os ∧ AllBare s'.gens) s₁ := by
    intro H hA hS hok
    have dct : ∀ {b : Addr} {m : Str → Option Value}, s₁.heap.Ns b m → (hidT s₁.heap H).Ns b m := by
      rintro b m ⟨o, es, ep, e, d, r⟩
      refine ⟨o, es, ep, hidT_get e ?_, d, r⟩
      cases q : H b with
      | none => rfl
      | some u =>
        obtain ⟨rfl, _, _⟩ := hA b u q
        rw [ha] at e
        cases e
        cases d
    have kin : K.In (hidT s₁.heap H) := fun b o e => hidT_get (KX b o e) (by
      cases q : H b with
      | none => rfl
      | some u =>
        have z := (hA b u q).2.1
        rw [z] at e
        cases e)
    have md : Mod K mg (hidT s₁.heap H) :=
      ⟨kin, dct hns, ⟨mb, dct hb, hbb⟩, let ⟨mc, h1, h2⟩ := hlim; ⟨mc, dct h1, h2⟩⟩
    have e0 : Env0 P w K mg (hidT s₁.heap H) callerA [] s₁ H :=
      ⟨rfl, md, fun b o e => of_hidT e, Nat.le_of_eq (hidT_size _ _), trivial,
        fun b hb => absurd (show b ∈ ([] : List Addr) from hb) (by simp), hok, .of_eq hg⟩
    refine codeAny_mono ((F _ kin (dct hns)).run callerA [] s₁ H ⟨[.ref a], []⟩ [.ref a] [.ref a] _ _ rfl hr e0
      (hbind s₁ (.ref a)) (.cons rfl .nil) (hsp H hS)) fun r s' h => ?_
    match r, h with
    | .error e, h => exact (hCX H e s' h).elim
    | .ok (.ret u), h =>
      obtain ⟨v, H', os, bare, un, hok', r', q⟩ := h
      obtain rfl : v = .bl true := q
      obtain rfl : u = Value.bool true := r'
      refine ⟨rfl, OldK.of_keep fun b o e => ?_, os, bare⟩
      cases q : H b with
      | none => exact un.keep b o e q (fun z => absurd (show b ∈ ([] : List Addr) from z) (by simp)) (by simp)
      | some u =>
        obtain ⟨rfl, _, xs, rfl⟩ := hA b u q
        have z2 := un.frzs _ _ _ q
        obtain ⟨e1, _⟩ := hok _ _ q
        obtain ⟨e2, _⟩ := hok' _ _ z2
        rw [e] at e1
        cases e1
        exact e2
  cases hk : K.lookup a with
  | some o =>
    have e := KX a o hk
    rw [ha] at e
    cases e
    exact core (fun _ => none) (fun b u z => nomatch z)
      (.inr ⟨_, vs.toArray, _, hk, rfl, rfl, rfl, by rw [List.size_toArray, lenV]; exact hl, by simpa using rv⟩)
      (fun b u z => nomatch z)
  | none =>
    refine core (fun b => if b = a then some (.frz { cls := .type "list", data := .seq vs.toArray } (.lst (ns.map V.int))) else none)
      (fun b u z => ?_) (.inl (.inr ⟨{ cls := .type "list", data := .seq vs.toArray }, if_pos rfl⟩)) (fun b u z => ?_)
    · by_cases hb : b = a
      · have z' := (if_pos hb).symm.trans z
        cases z'
        exact ⟨hb, hb ▸ hk, _, rfl⟩
      · exact nomatch (if_neg hb).symm.trans z
    · by_cases hb : b = a
      · have z' := (if_pos hb).symm.trans z
        cases z'
        subst hb
        exact ⟨ha, by rw [List.length_map]; exact hl, vs, _, rv, ha⟩
      · exact nomatch (if_neg hb).symm.trans z

/-- the goal that k_head leaves -/
theorem walkG {l : PySem.W.OpenLaw} {n k : Nat} {q : Program} {loose : List Str}
    {XP : (Str → Option Value) → Heap → Prop} {YP : World → Heap → Prop} {d : DefRec}
    {K : Params → PySem.W.Frag} {CX : CXT} {sp : PySem.W.Frag → Sp} {x : Str}
    (hn : l.most = some n) (hn2 : n ≤ sizeLine) (hdf : d.params.defaults = []) (hr : Room k callerA)
    (hY : ∀ (w : World) (h : Heap), YP w h → (K w.params).In h)
    (F : ∀ (w : World) (mg : Str → Option Value) (fa : Addr) (h : Heap),
      (K w.params).In h → h.Ns mainGlobals mg → mg d.name = some (.ref fa) →
      ∃ fd : FuncData, (∀ (s : Shared) (u : Value), BindsTo s fd ⟨[u], []⟩ [(x, u)]) ∧
        ∀ base : Heap, (K w.params).In base → base.Ns mainGlobals mg →
          FnG l.prog w (K w.params) mg base CX k fa fd [x] (sp (K w.params)))
    (hsp : ∀ (K : PySem.W.Frag) (H : Hp) (a : Addr) (ns : List Int), ns.length ≤ n →
      SqL K H a (ns.map V.int) → sp K [.ref a] H (fun v _ => v = .bl true) fun _ _ _ => False)
    (hCX : ∀ (H : Hp) (s : Shared) (e : Value) (s' : Shared), CX [] H s (fun _ _ _ => False) e s' → False) :
    PySem.W.WalkO q loose XP YP l.row.toRowW d [] (fun f vs => PySem.call f vs) := by
  refine Att.attach_call hn hdf fun w s₀ s₁ mg mb fa o pm cd doc a vs ns G Y ho hd hcd hmg hobj hints hlen hg => ?_
  have KX := hY w _ Y
  obtain ⟨fd, hb, hF⟩ := F w mg fa _ KX G.T.g hmg
  exact lawG KX G.T.g G.T.b G.T.builtins G.T.nolimit hg hobj hints (Nat.le_trans hlen hn2) hr hF hb
    (fun H hS => hsp _ H a ns hlen hS) fun H e s' => hCX H s₁ e s'
end DL

namespace DL
open PySem PySem.Spec PyProof.Rows L2

/-! ### data -/
def kD : Key → PyData
  | .inl i => .int i
  | .inr s => .str s
mutual
inductive Rp (K : PySem.W.Frag) (H : Hp) : V → PyData → Prop
  | non : Rp K H .non .none
  | bl (b : Bool) : Rp K H (.bl b) (.bool b)
  | int (i : Int) : Rp K H (.int i) (.int i)
  | str (x : Str) : Rp K H (.str x) (.str x)
  | lst {a : Addr} {xs : List V} {ds : List PyData} : H a = some (.lst xs) → RpA K H xs ds → Rp K H (.ref a) (.list ds)
  | tup {a : Addr} {xs : List V} {ds : List PyData} : SqT K H a xs → RpA K H xs ds → Rp K H (.ref a) (.tuple ds)
  | dct {a : Addr} {kvs : List (Key × V)} {vs : List V} {kds : List (PyData × PyData)} {ds : List PyData} :
      H a = some (.dK kvs) → kds.map (·.1) = kvs.map (fun p => kD p.1) → vs = kvs.map (·.2) → ds = kds.map (·.2) →
      RpA K H vs ds → Rp K H (.ref a) (.dict kds)
  /-- the script: told by a dict that no run makes -/
  | scr {a : Addr} {ns : List Int} : SqL K H a (ns.map V.int) → Rp K H (.ref a) (.dict [(.none, .list (ns.map PyData.int))])
inductive RpA (K : PySem.W.Frag) (H : Hp) : List V → List PyData → Prop
  | nil : RpA K H [] []
  | cons {v : V} {vs : List V} {d : PyData} {ds : List PyData} : Rp K H v d → RpA K H vs ds → RpA K H (v :: vs) (d :: ds)
end
section
variable {K : PySem.W.Frag} {H H' : Hp}
theorem sameT {a : Addr} {xs : List V} (e : Same H H') (h : SqT K H a xs) : SqT K H' a xs := by
  rcases h with (h | ⟨o, h⟩) | h
  · exact .inl (.inl (e _ _ h))
  · exact .inl (.inr ⟨o, e _ _ h⟩)
  · exact .inr h
mutual
theorem Rp.mono (e : Same H H') : ∀ {v : V} {d : PyData}, Rp K H v d → Rp K H' v d
  | _, _, .non => .non
  | _, _, .bl b => .bl b
  | _, _, .int i => .int i
  | _, _, .str x => .str x
  | _, _, .lst h r => .lst (e _ _ h) (RpA.mono e r)
  | _, _, .tup h r => .tup (sameT e h) (RpA.mono e r)
  | _, _, .dct h h1 h2 h3 r => .dct (e _ _ h) h1 h2 h3 (RpA.mono e r)
  | _, _, .scr h => .scr (e.seq h)
theorem RpA.mono (e : Same H H') : ∀ {vs : List V} {ds : List PyData}, RpA K H vs ds → RpA K H' vs ds
  | _, _, .nil => .nil
  | _, _, .cons h r => .cons (Rp.mono e h) (RpA.mono e r)
end
theorem RpA.length : ∀ {vs : List V} {ds : List PyData}, RpA K H vs ds → vs.length = ds.length
  | _, _, .nil => rfl
  | _, _, .cons _ r => congrArg (· + 1) (RpA.length r)
theorem RpA.get : ∀ {vs : List V} {ds : List PyData} {i : Nat} {d : PyData}, RpA K H vs ds → ds[i]? = some d → ∃ v, vs[i]? = some v ∧ Rp K H v d
  | _, _, _, _, .nil, e => by simp at e
  | _, _, 0, _, .cons h _, e => by simp at e; subst e; exact ⟨_, rfl, h⟩
  | _, _, i + 1, d, .cons _ r, e => by
    obtain ⟨v, h1, h2⟩ := RpA.get (i := i) (d := d) r (by simpa using e)
    exact ⟨v, by simpa using h1, h2⟩
theorem RpA.append : ∀ {vs us : List V} {ds es : List PyData}, RpA K H vs ds → RpA K H us es → RpA K H (vs ++ us) (ds ++ es)
  | _, _, _, _, .nil, s => s
  | _, _, _, _, .cons h r, s => .cons h (RpA.append r s)
theorem RpA.take : ∀ {vs : List V} {ds : List PyData} (n : Nat), RpA K H vs ds → RpA K H (vs.take n) (ds.take n)
  | _, _, 0, _ => .nil
  | _, _, _ + 1, .nil => .nil
  | _, _, n + 1, .cons h r => .cons h (RpA.take n r)
theorem RpA.drop : ∀ {vs : List V} {ds : List PyData} (n : Nat), RpA K H vs ds → RpA K H (vs.drop n) (ds.drop n)
  | _, _, 0, r => r
  | _, _, _ + 1, .nil => .nil
  | _, _, n + 1, .cons _ r => RpA.drop n r
theorem RpA.reverse : ∀ {vs : List V} {ds : List PyData}, RpA K H vs ds → RpA K H vs.reverse ds.reverse
  | _, _, .nil => .nil
  | _, _, .cons h r => by
    rw [List.reverse_cons, List.reverse_cons]
    exact (RpA.reverse r).append (.cons h .nil)
theorem RpA.set {v : V} {d : PyData} (h : Rp K H v d) : ∀ {vs : List V} {ds : List PyData} (i : Nat), RpA K H vs ds → RpA K H (vs.set i v) (ds.set i d)
  | _, _, _, .nil => .nil
  | _, _, 0, .cons _ r => .cons h r
  | _, _, i + 1, .cons q r => .cons q (RpA.set h i r)
theorem RpA.ints : ∀ (ns : List Int), RpA K H (ns.map V.int) (ns.map PyData.int)
  | [] => .nil
  | n :: r => .cons (.int n) (RpA.ints r)
theorem RpA.of_ints : ∀ {xs : List V} {ns : List Int}, RpA K H xs (ns.map PyData.int) → xs = ns.map V.int
  | _, [], h => by cases h; rfl
  | _, n :: r, h => by
    cases h with
    | cons h1 h2 =>
      cases h1
      rw [RpA.of_ints h2]
      rfl
theorem RpA.bools : ∀ {xs : List V} {bs : List Bool}, RpA K H xs (bs.map PyData.bool) → xs = bs.map V.bl
  | _, [], h => by cases h; rfl
  | _, n :: r, h => by
    cases h with
    | cons h1 h2 =>
      cases h1
      rw [RpA.bools h2]
      rfl
/-- without a dict: what the library's deep comparison reads -/
def noD : PyData → Bool := fun d => d.canLay0
end

/-! ### one step of the abstract heap: W is what is known, H all that is tracked -/
structure Adv (P : Addr → Prop) (W H W' H' : Hp) : Prop where
  ex : Same W W'
  gw : ∀ p o, H p = some o → ¬ P p → H' p = some o
  th : ∀ p, H p ≠ none → H' p ≠ none
  nw : ∀ p o, W' p = some o → W p = some o ∨ H p = none
section
variable {P P' : Addr → Prop} {W H W1 H1 W2 H2 : Hp}
theorem Adv.refl : Adv P W H W H := ⟨Same.refl W, fun _ _ h _ => h, fun _ h => h, fun _ _ h => .inl h⟩
theorem Adv.trans (a : Adv P W H W1 H1) (b : Adv P W1 H1 W2 H2) : Adv P W H W2 H2 :=
  ⟨a.ex.trans b.ex, fun p o h n => b.gw p o (a.gw p o h n) n, fun p h => b.th p (a.th p h), fun p o h => by
    rcases b.nw p o h with h | h
    · exact a.nw p o h
    · exact .inr (Classical.byContradiction fun q => a.th p q h)⟩
theorem Adv.mono (a : Adv P W H W1 H1) (h : ∀ p, P p → P' p) : Adv P' W H W1 H1 :=
  ⟨a.ex, fun p o e n => a.gw p o e fun z => n (h p z), a.th, a.nw⟩
theorem Adv.back (a : Adv P W H W1 H1) {p : Addr} (h : H1 p = none) : H p = none :=
  Classical.byContradiction fun q => a.th p q h
/-- a new object, known -/
theorem Adv.new {p : Addr} {o : HO} (h : H p = none) (hw : Same W H) : Adv P W H (upd W p o) (upd H p o) := by
  have w0 : W p = none := hw.free h
  refine ⟨fun a u e => ?_, fun a u e _ => ?_, fun a e => ?_, fun a u e => ?_⟩
  · rw [upd_ne (ne_of_none e w0)]; exact e
  · rw [upd_ne (ne_of_none e h)]; exact e
  · by_cases q : a = p
    · subst q; rw [upd_same]; simp
    · rw [upd_ne q]; exact e
  · by_cases q : a = p
    · subst q; exact .inr h
    · rw [upd_ne q] at e; exact .inl e
/-- a new object, not (yet) known -/
theorem Adv.newF {p : Addr} {o : HO} (h : H p = none) : Adv P W H W (upd H p o) := by
  refine ⟨Same.refl W, fun a u e _ => ?_, fun a e => ?_, fun a u e => .inl e⟩
  · rw [upd_ne (ne_of_none e h)]; exact e
  · by_cases q : a = p
    · subst q; rw [upd_same]; simp
    · rw [upd_ne q]; exact e
theorem same_upd2 {p : Addr} {o : HO} (hw : Same W H) : Same (upd W p o) (upd H p o) := fun a u e => by
  by_cases q : a = p
  · subst q; rw [upd_same] at e ⊢; exact e
  · rw [upd_ne q] at e ⊢; exact hw a u e
theorem same_updH {p : Addr} {o : HO} (hw : Same W H) (h : W p = none) : Same W (upd H p o) := fun a u e => by
  rw [upd_ne (ne_of_none e h)]
  exact hw a u e
end

/-! ### the pot of numbers to draw from -/
def Pot (K : PySem.W.Frag) (W H : Hp) (a : Addr) : Prop :=
  ∃ (c : Addr) (p x r : Int) (cs : List Int), H a = some (.lst [.ref c, .int p, .int x, .int r]) ∧
    W c = some (.lst (cs.map V.int)) ∧ (∀ n ∈ cs, 0 ≤ n) ∧ cs.length ≤ 17 ∧ 0 ≤ p ∧ 0 ≤ x ∧ 0 ≤ r
theorem Pot.mono {K : PySem.W.Frag} {W H W' H' : Hp} {a : Addr} (e : Same W W') (h : ∀ o, H a = some o → H' a = some o) : Pot K W H a → Pot K W' H' a := by
  rintro ⟨c, p, x, r, cs, h1, h2, h3⟩
  exact ⟨c, p, x, r, cs, h _ h1, e _ _ h2, h3⟩
theorem Pot.some {K : PySem.W.Frag} {W H : Hp} {a : Addr} (h : Pot K W H a) : H a ≠ none := by
  obtain ⟨c, p, x, r, cs, h1, _⟩ := h
  rw [h1]; simp

/-! ### what the slots hold -/
inductive Sl where
  | un | sh (d : PyData) | own (ds : List PyData) | pot | al (i : Nat)
  /-- a tuple of two own lists -/
  | own2 (ds es : List PyData)
/-- a value: known data; the list of an own slot; a new list that nobody holds -/
inductive DV where
  | k (d : PyData) | r (i : Nat) (ds : List PyData) | f (ds : List PyData)
@[reducible] def DV.data : DV → PyData
  | .k d => d
  | .r _ ds => .list ds
  | .f ds => .list ds
/-- what may be kept elsewhere -/
@[reducible] def DV.toD : DV → Option PyData
  | .k d => some d
  | .r _ _ => none
  | .f ds => some (.list ds)

/-- the frame of a def's run: the written part, the pots, what was known and tracked at its entry -/
structure Fx where
  K : PySem.W.Frag
  P : Addr → Prop
  W0 : Hp
  B : Hp

/-- the slot i holds a tuple of two own lists -/
structure O2 (F : Fx) (W H : Hp) (σ : L2.St) (ρ : List Sl) (i : Nat) (ds es : List PyData) (t a b : Addr) (xs ys : List V) : Prop where
  st : σ[i]? = some (some (V.ref t))
  tw : W t = some (.tup [.ref a, .ref b])
  ab : a ≠ b
  ba : F.B a = none
  bb : F.B b = none
  wa : W a = none
  wb : W b = none
  ha : H a = some (.lst xs)
  hb : H b = some (.lst ys)
  ra : RpA F.K W xs ds
  rb : RpA F.K W ys es
  no : ∀ (k : Nat) (fs : List PyData), ρ[k]? = some (Sl.own fs) → σ[k]? ≠ some (some (V.ref a)) ∧ σ[k]? ≠ some (some (V.ref b))
structure Rel (F : Fx) (W H : Hp) (σ : L2.St) (ρ : List Sl) : Prop where
  adv : Adv F.P F.W0 F.B W H
  sub : Same W H
  len : σ.length = ρ.length
  sh : ∀ (i : Nat) (d : PyData), ρ[i]? = some (Sl.sh d) → ∃ v, σ[i]? = some (some v) ∧ Rp F.K W v d
  own : ∀ (i : Nat) (ds : List PyData), ρ[i]? = some (Sl.own ds) → ∃ a xs, σ[i]? = some (some (V.ref a)) ∧ F.B a = none ∧ W a = none ∧ H a = some (.lst xs) ∧ RpA F.K W xs ds
  dis : ∀ (i j : Nat) (ds es : List PyData) (a : Addr), ρ[i]? = some (Sl.own ds) → ρ[j]? = some (Sl.own es) → σ[i]? = some (some (V.ref a)) → σ[j]? = some (some (V.ref a)) → i = j
  pot : ∀ (i : Nat), ρ[i]? = some Sl.pot → ∃ a, σ[i]? = some (some (V.ref a)) ∧ F.P a
  al : ∀ (i j : Nat), ρ[i]? = some (Sl.al j) → (∃ ds, ρ[j]? = some (Sl.own ds)) ∧ σ[i]? = σ[j]?
  pp : ∀ p, F.P p → (∃ i : Nat, ρ[i]? = some Sl.pot ∧ σ[i]? = some (some (V.ref p))) ∧ F.B p ≠ none ∧ W p = none ∧ Pot F.K W H p
  o2 : ∀ (i : Nat) (ds es : List PyData), ρ[i]? = some (Sl.own2 ds es) → ∃ t a b xs ys, O2 F W H σ ρ i ds es t a b xs ys
  o1 : ∀ (i j : Nat) (ds es fs gs : List PyData), ρ[i]? = some (Sl.own2 ds es) → ρ[j]? = some (Sl.own2 fs gs) → i = j

def VR (F : Fx) (σ : L2.St) (ρ : List Sl) (Hs W H : Hp) (v : V) : DV → Prop
  | .k d => Rp F.K W v d
  | .r i ds => ρ[i]? = some (Sl.own ds) ∧ σ[i]? = some (some v)
  | .f ds => ∃ a xs, v = .ref a ∧ Hs a = none ∧ W a = none ∧ H a = some (.lst xs) ∧ RpA F.K W xs ds

section
variable {F : Fx} {W H W1 H1 : Hp} {σ : L2.St} {ρ : List Sl}
theorem Rel.nP (R : Rel F W H σ ρ) {a : Addr} (h : F.B a = none) : ¬ F.P a := fun z => (R.pp a z).2.1 h
/-- a step that keeps all but the pots -/
theorem Rel.step (R : Rel F W H σ ρ) (A : Adv F.P W H W1 H1) (sub : Same W1 H1) (hp : ∀ p, F.P p → Pot F.K W1 H1 p) : Rel F W1 H1 σ ρ where
  adv := R.adv.trans A
  sub := sub
  len := R.len
  sh := fun i d e => let ⟨v, h1, h2⟩ := R.sh i d e; ⟨v, h1, h2.mono A.ex⟩
  own := fun i ds e => by
    obtain ⟨a, xs, h1, h2, h3, h4, h5⟩ := R.own i ds e
    refine ⟨a, xs, h1, h2, ?_, A.gw a _ h4 (R.nP h2), h5.mono A.ex⟩
    cases q : W1 a with
    | none => rfl
    | some o =>
      rcases A.nw a o q with z | z
      · rw [h3] at z; cases z
      · rw [h4] at z; cases z
  dis := R.dis
  pot := R.pot
  al := R.al
  pp := fun p z => by
    obtain ⟨h1, h2, h3, h4⟩ := R.pp p z
    refine ⟨h1, h2, ?_, hp p z⟩
    cases q : W1 p with
    | none => rfl
    | some o =>
      rcases A.nw p o q with z | z
      · rw [h3] at z; cases z
      · exact absurd z h4.some
  o2 := fun i ds es e => by
    obtain ⟨t, a, b, xs, ys, O⟩ := R.o2 i ds es e
    have wn : ∀ {c : Addr} {zs : List V}, W c = none → H c = some (.lst zs) → W1 c = none := fun {c zs} w h => by
      cases q : W1 c with
      | none => rfl
      | some o =>
        rcases A.nw c o q with z | z
        · rw [w] at z; cases z
        · rw [h] at z; cases z
    exact ⟨t, a, b, xs, ys, O.st, A.ex _ _ O.tw, O.ab, O.ba, O.bb, wn O.wa O.ha, wn O.wb O.hb, A.gw a _ O.ha (R.nP O.ba), A.gw b _ O.hb (R.nP O.bb), O.ra.mono A.ex, O.rb.mono A.ex, O.no⟩
  o1 := R.o1
/-- .. that keeps the pots too -/
theorem Rel.step0 (R : Rel F W H σ ρ) (A : Adv (fun _ => False) W H W1 H1) (sub : Same W1 H1) : Rel F W1 H1 σ ρ :=
  R.step (A.mono fun _ z => z.elim) sub fun p z => (R.pp p z).2.2.2.mono A.ex fun o e => A.gw p o e fun q => q
theorem VR.data {Hs : Hp} {v : V} {dv : DV} (R : Rel F W H σ ρ) (h : VR F σ ρ Hs W H v dv) : Rp F.K H v dv.data := by
  cases dv with
  | k d => exact h.mono R.sub
  | r i ds =>
    obtain ⟨h1, h2⟩ := h
    obtain ⟨a, xs, h3, _, _, h4, h5⟩ := R.own i ds h1
    rw [h3] at h2
    cases h2
    exact Rp.lst h4 (h5.mono R.sub)
  | f ds =>
    obtain ⟨a, xs, rfl, _, _, h4, h5⟩ := h
    exact Rp.lst h4 (h5.mono R.sub)
/-- a list that may be read: its items are known -/
theorem VR.list {Hs : Hp} {v : V} {dv : DV} {ds : List PyData} (R : Rel F W H σ ρ) (h : VR F σ ρ Hs W H v dv) (e : dv.data = .list ds) :
    ∃ a xs, v = .ref a ∧ H a = some (.lst xs) ∧ RpA F.K W xs ds := by
  cases dv with
  | k d =>
    cases e
    cases h with
    | lst h1 h2 => exact ⟨_, _, rfl, R.sub _ _ h1, h2⟩
  | r i ds =>
    cases e
    obtain ⟨h1, h2⟩ := h
    obtain ⟨a, xs, h3, _, _, h4, h5⟩ := R.own i _ h1
    rw [h3] at h2
    cases h2
    exact ⟨a, xs, rfl, h4, h5⟩
  | f ds =>
    cases e
    obtain ⟨a, xs, rfl, _, _, h4, h5⟩ := h
    exact ⟨a, xs, rfl, h4, h5⟩
theorem VR.tup {Hs : Hp} {v : V} {dv : DV} {ds : List PyData} (R : Rel F W H σ ρ) (h : VR F σ ρ Hs W H v dv) (e : dv.data = .tuple ds) :
    ∃ a xs, v = .ref a ∧ SqT F.K H a xs ∧ RpA F.K W xs ds := by
  cases dv with
  | k d =>
    cases e
    cases h with
    | tup h1 h2 => exact ⟨_, _, rfl, sameT R.sub h1, h2⟩
  | r i ds => cases e
  | f ds => cases e
/-- it becomes known -/
theorem VR.known {Ws Hs : Hp} {v : V} {dv : DV} {d : PyData} (R0 : Rel F Ws Hs σ ρ) (A : Adv F.P Ws Hs W H) (R : Rel F W H σ ρ)
    (h : VR F σ ρ Hs W H v dv) (e : dv.toD = some d) : ∃ W2, Adv F.P Ws Hs W2 H ∧ Rel F W2 H σ ρ ∧ Rp F.K W2 v d ∧ Same W W2 := by
  cases dv with
  | k d =>
    cases e
    exact ⟨W, A, R, h, Same.refl W⟩
  | r i ds => cases e
  | f ds =>
    cases e
    obtain ⟨a, xs, rfl, h1, h2, h3, h4⟩ := h
    have sm : Same W (upd W a (.lst xs)) := fun b u q => by
      rw [upd_ne (ne_of_none q h2)]
      exact q
    have A2 : Adv F.P Ws Hs (upd W a (.lst xs)) H := ⟨A.ex.trans sm, A.gw, A.th, fun p o q => by
      by_cases z : p = a
      · subst z; exact .inr h1
      · rw [upd_ne z] at q; exact A.nw p o q⟩
    refine ⟨upd W a (.lst xs), A2, ⟨R0.adv.trans A2, fun b u q => ?_, R.len, fun i d q => ?_, fun i ds q => ?_, R.dis, R.pot, R.al, fun p z => ?_, fun i ds es q => ?_, R.o1⟩, ?_, sm⟩
    · by_cases z : b = a
      · subst z; rw [upd_same] at q; cases q; exact h3
      · rw [upd_ne z] at q; exact R.sub b u q
    · obtain ⟨v, q1, q2⟩ := R.sh i d q
      exact ⟨v, q1, q2.mono sm⟩
    · obtain ⟨b, ys, q1, q2, q3, q4, q5⟩ := R.own i ds q
      refine ⟨b, ys, q1, q2, ?_, q4, q5.mono sm⟩
      obtain ⟨b', zs, r1, _, _, r4, _⟩ := R0.own i ds q
      rw [q1] at r1
      cases r1
      rw [upd_ne (fun z => by subst z; rw [h1] at r4; cases r4)]
      exact q3
    · obtain ⟨q1, q2, q3, q4⟩ := R.pp p z
      obtain ⟨_, _, _, r4⟩ := R0.pp p z
      refine ⟨q1, q2, ?_, q4.mono sm fun o q => q⟩
      rw [upd_ne (fun z => by subst z; exact r4.some h1)]
      exact q3
    · obtain ⟨t, b, c, xs', ys', O⟩ := R.o2 i ds es q
      obtain ⟨t0, b0, c0, xs0, ys0, O0⟩ := R0.o2 i ds es q
      have et := O0.st
      rw [O.st] at et
      cases et
      have ew := A.ex _ _ O0.tw
      rw [O.tw] at ew
      cases ew
      have n1 : b ≠ a := fun z => by have := O0.ha; rw [z, h1] at this; cases this
      have n2 : c ≠ a := fun z => by have := O0.hb; rw [z, h1] at this; cases this
      exact ⟨t, b, c, xs', ys', O.st, sm _ _ O.tw, O.ab, O.ba, O.bb, by rw [upd_ne n1]; exact O.wa, by rw [upd_ne n2]; exact O.wb, O.ha, O.hb, O.ra.mono sm, O.rb.mono sm, O.no⟩
    · exact .lst upd_same (h4.mono sm)
end
end DL

namespace DL
open PySem PySem.Spec PyProof.Rows L2

/-! ### judgements on data -/
abbrev DT := List Sl → (DV → Prop) → Prop
abbrev DB := List Sl → (Bool → Prop) → Prop
@[reducible] def DV.norm : DV → DV
  | .k d => .k d
  | .r i ds => .r i ds
  | .f ds => .k (.list ds)
/-- an operand: known data, or an own slot's list -/
def Opd (F : Fx) (σ : L2.St) (ρ : List Sl) (W : Hp) (v : V) : DV → Prop
  | .k d => Rp F.K W v d
  | .r i ds => ρ[i]? = some (Sl.own ds) ∧ σ[i]? = some (some v)
  | .f _ => False
section
variable {F : Fx} {W H W1 H1 W2 H2 : Hp} {σ : L2.St} {ρ : List Sl} {v : V} {dv : DV}
theorem Opd.later (e : Same W W1) (h : Opd F σ ρ W v dv) : Opd F σ ρ W1 v dv := by
  cases dv with
  | k d => exact Rp.mono e h
  | r i ds => exact h
  | f ds => exact h
theorem Opd.vr (h : Opd F σ ρ W v dv) : VR F σ ρ H1 W H v dv := by
  cases dv with
  | k d => exact h
  | r i ds => exact h
  | f ds => exact h.elim
theorem Opd.data (R : Rel F W H σ ρ) (h : Opd F σ ρ W v dv) : Rp F.K H v dv.data := VR.data (Hs := H) R h.vr
theorem Opd.list {ds : List PyData} (R : Rel F W H σ ρ) (h : Opd F σ ρ W v dv) (e : dv.data = .list ds) : ∃ a xs, v = .ref a ∧ H a = some (.lst xs) ∧ RpA F.K W xs ds :=
  VR.list (Hs := H) R h.vr e
theorem Opd.tup {ds : List PyData} (R : Rel F W H σ ρ) (h : Opd F σ ρ W v dv) (e : dv.data = .tuple ds) : ∃ a xs, v = .ref a ∧ SqT F.K H a xs ∧ RpA F.K W xs ds :=
  VR.tup (Hs := H) R h.vr e
theorem Opd.int {i : Int} (R : Rel F W H σ ρ) (h : Opd F σ ρ W v dv) (e : dv.data = .int i) : v = .int i := by
  have q := h.data R
  rw [e] at q
  cases q
  rfl
theorem Opd.bool {b : Bool} (R : Rel F W H σ ρ) (h : Opd F σ ρ W v dv) (e : dv.data = .bool b) : v = .bl b := by
  have q := h.data R
  rw [e] at q
  cases q
  rfl
theorem Opd.str {x : Str} (R : Rel F W H σ ρ) (h : Opd F σ ρ W v dv) (e : dv.data = .str x) : v = .str x := by
  have q := h.data R
  rw [e] at q
  cases q
  rfl
theorem VR.norm {Ws Hs : Hp} (R0 : Rel F Ws Hs σ ρ) (A : Adv F.P Ws Hs W H) (R : Rel F W H σ ρ) (h : VR F σ ρ Hs W H v dv) :
    ∃ W2, Adv F.P Ws Hs W2 H ∧ Rel F W2 H σ ρ ∧ Opd F σ ρ W2 v dv.norm ∧ Same W W2 := by
  cases dv with
  | k d => exact ⟨W, A, R, h, Same.refl W⟩
  | r i ds => exact ⟨W, A, R, h, Same.refl W⟩
  | f ds => exact VR.known R0 A R h rfl
theorem DV.norm_data : ∀ dv : DV, dv.norm.data = dv.data
  | .k _ => rfl
  | .r _ _ => rfl
  | .f _ => rfl
end

/-- what is wanted behind an expression -/
def Post (F : Fx) (W H : Hp) (σ : L2.St) (ρ : List Sl) (QD : DV → Prop) (Q : VK) : Prop :=
  ∀ v dv W' H', Adv F.P W H W' H' → Rel F W' H' σ ρ → VR F σ ρ H W' H' v dv → QD dv → Q v H'
section
variable {F : Fx} {W H W1 H1 : Hp} {σ : L2.St} {ρ : List Sl} {QD : DV → Prop} {Q : VK}
theorem Post.from (A : Adv F.P W H W1 H1) (p : Post F W H σ ρ QD Q) : Post F W1 H1 σ ρ QD Q := fun v dv W' H' A' R h q =>
  p v dv W' H' (A.trans A') R (by
    cases dv with
    | k d => exact h
    | r i ds => exact h
    | f ds =>
      obtain ⟨a, xs, e, h1, h2⟩ := h
      exact ⟨a, xs, e, A.back h1, h2⟩) q
theorem Post.here (R : Rel F W H σ ρ) (p : Post F W H σ ρ QD Q) {v : V} {d : PyData} (h : Rp F.K W v d) (q : QD (.k d)) : Q v H := p v (.k d) W H Adv.refl R h q
theorem Post.opd (R : Rel F W H σ ρ) (p : Post F W H σ ρ QD Q) {v : V} {dv : DV} (h : Opd F σ ρ W v dv) (q : QD dv) : Q v H := p v dv W H Adv.refl R h.vr q
theorem Post.newT (R : Rel F W H σ ρ) (p : Post F W H σ ρ QD Q) {xs : List V} {ds : List PyData} (h : RpA F.K W xs ds) (q : QD (.k (.tuple ds))) :
    ∀ a, H a = none → Q (.ref a) (upd H a (.tup xs)) := fun a ha => by
  have A : Adv (fun _ => False) W H (upd W a (.tup xs)) (upd H a (.tup xs)) := Adv.new ha R.sub
  refine p _ _ _ _ (A.mono fun _ z => z.elim) (R.step0 A (same_upd2 R.sub)) ?_ q
  exact Rp.tup (.inl (.inl upd_same)) (h.mono A.ex)
theorem Post.newL (R : Rel F W H σ ρ) (p : Post F W H σ ρ QD Q) {xs : List V} {ds : List PyData} (h : RpA F.K W xs ds) (q : QD (.f ds)) :
    ∀ a, H a = none → Q (.ref a) (upd H a (.lst xs)) := fun a ha => by
  have A : Adv (fun _ => False) W H W (upd H a (.lst xs)) := Adv.newF ha
  refine p _ _ _ _ (A.mono fun _ z => z.elim) (R.step0 A (same_updH R.sub (R.sub.free ha))) ?_ q
  exact ⟨a, xs, rfl, ha, R.sub.free ha, upd_same, h⟩
end

def SemE (K : PySem.W.Frag) (te : TE) (t : DT) : Prop := ∀ (F : Fx), F.K = K → ∀ ρ QD, t ρ QD → ∀ W H σ, Rel F W H σ ρ → ∀ Q : VK, Post F W H σ ρ QD Q → te σ H Q
def SemT (K : PySem.W.Frag) (tt : TT) (t : DB) : Prop := ∀ (F : Fx), F.K = K → ∀ ρ QD, t ρ QD → ∀ W H σ, Rel F W H σ ρ → ∀ Q : Bool → Hp → Prop,
  (∀ b W' H', Adv F.P W H W' H' → Rel F W' H' σ ρ → QD b → Q b H') → tt σ H Q
structure DE (X : Cx) (e : Expr) (t : DT) : Prop where
  ex : ∃ te, PE X e te ∧ SemE X.K te t
structure DTs (X : Cx) (e : Expr) (t : DB) : Prop where
  ex : ∃ tt, PT X e tt ∧ SemT X.K tt t
/-- a chain of and, or -/
structure DW (X : Cx) (e : Expr) (t : DB) : Prop where
  ex : ∃ tt, PW X e tt ∧ SemT X.K tt t

section
variable {K : PySem.W.Frag} {te : TE} {t : DT} {F : Fx} {W H : Hp} {σ : L2.St} {ρ : List Sl} {QD : DV → Prop}
theorem SemE.use (s : SemE K te t) (hF : F.K = K) (h : t ρ QD) (R : Rel F W H σ ρ) {Q : VK}
    (p : ∀ v dv W' H', Adv F.P W H W' H' → Rel F W' H' σ ρ → Opd F σ ρ W' v dv → (∃ dw, dw.norm = dv ∧ QD dw) → Q v H') : te σ H Q :=
  s F hF ρ QD h W H σ R Q fun v dv W' H' A R' h q => by
    obtain ⟨W2, A2, R2, o, _⟩ := VR.norm R A R' h
    exact p v dv.norm W2 H' A2 R2 o ⟨dv, rfl, q⟩
end

/-! ### names and constants -/
def dVar (i : Nat) : DT := fun ρ Q => match ρ[i]? with
  | some (.sh d) => Q (.k d)
  | some (.own ds) => Q (.r i ds)
  | some (.al j) => (match ρ[j]? with
    | some (.own ds) => Q (.r j ds)
    | _ => False)
  | _ => False
theorem sem_var {K : PySem.W.Frag} (i : Nat) : SemE K (tVar i) (dVar i) := fun F hF ρ QD h W H σ R Q p => by
  unfold dVar at h
  split at h
  · rename_i d e
    obtain ⟨v, h1, h2⟩ := R.sh i d e
    exact ⟨v, h1, p.here R h2 h⟩
  · rename_i ds e
    obtain ⟨a, xs, h1, _⟩ := R.own i ds e
    exact ⟨.ref a, h1, p.opd R (dv := .r i ds) ⟨e, h1⟩ h⟩
  · rename_i j e
    split at h
    · rename_i ds e2
      obtain ⟨a, xs, h1, _⟩ := R.own j ds e2
      exact ⟨.ref a, (R.al i j e).2.trans h1, p.opd R (dv := .r j ds) ⟨e2, h1⟩ h⟩
    · exact h.elim
  · exact h.elim
def dC (d : PyData) : DT := fun _ Q => Q (.k d)
theorem sem_c {K : PySem.W.Frag} {v : V} {d : PyData} (h : ∀ W, Rp K W v d) : SemE K (tC v) (dC d) := fun F hF ρ QD q W H σ R Q p => p.here R (hF ▸ h W) q
section
variable {X : Cx}
theorem de_var (i : Nat) {x : Str} {pos : Pos} (hN : X.N[i]? = some x := by rfl)
    (hv : Vis X.env.scope x := by first | exact Or.inl rfl | exact Or.inr (Or.inl rfl) | exact Or.inr (Or.inr rfl))
    (hd : (x == ("__debug__" : Str)) = false := by decide) (hcd : (x == ("__classdict__" : Str)) = false := by decide) : DE X (.Name x pos) (dVar i) :=
  ⟨_, pe_var hN hv hd hcd, sem_var i⟩
theorem de_int {i j pos} : DE X (.Constant (.int i) j pos) (dC (.int i)) := ⟨_, pe_int, sem_c fun _ => .int i⟩
theorem de_bl {b j pos} : DE X (.Constant (.bool b) j pos) (dC (.bool b)) := ⟨_, pe_bl, sem_c fun _ => .bl b⟩
theorem de_non {j pos} : DE X (.Constant .none j pos) (dC .none) := ⟨_, pe_non, sem_c fun _ => .non⟩
theorem de_str {x j pos} : DE X (.Constant (.str x) j pos) (dC (.str x)) := ⟨_, pe_str, sem_c fun _ => .str x⟩
/-- a constant of the module -/
theorem de_gl {x : Str} {v : V} {d : PyData} {u : Value} {pos : Pos} (hg : Gl X x) (hm : X.mg x = some u) (r : RelV v u) (h : ∀ W, Rp X.K W v d)
    (hd : (x == ("__debug__" : Str)) = false := by decide) : DE X (.Name x pos) (dC d) := ⟨_, pe_glob hg hm r hd, sem_c h⟩
theorem de_glInt {x : Str} {i : Int} {t : Tok} {pos : Pos} (hg : Gl X x) (hm : X.mg x = some (.int i t))
    (hd : (x == ("__debug__" : Str)) = false := by decide) : DE X (.Name x pos) (dC (.int i)) := de_gl (v := .int i) hg hm ⟨t, rfl⟩ (fun _ => .int i) hd
theorem de_glStr {x : Str} {i : Str} {t : Tok} {pos : Pos} (hg : Gl X x) (hm : X.mg x = some (.str i t))
    (hd : (x == ("__debug__" : Str)) = false := by decide) : DE X (.Name x pos) (dC (.str i)) := de_gl (v := .str i) hg hm ⟨t, rfl⟩ (fun _ => .str i) hd
end

/-! ### two operands -/
abbrev DO2 := PyData → PyData → (DV → Prop) → Prop
def dOp (ro : DO2) (ta tb : DT) : DT := fun ρ Q => ta ρ fun x => tb ρ fun y => ro x.data y.data Q
def OpD (K : PySem.W.Frag) (r : R2) (ro : DO2) : Prop := ∀ (F : Fx), F.K = K → ∀ W H σ ρ v1 v2 d1 d2 QD Q, Rel F W H σ ρ → Opd F σ ρ W v1 d1 → Opd F σ ρ W v2 d2 →
  ro d1.data d2.data QD → Post F W H σ ρ QD Q → r v1 v2 H Q
theorem sem_op {K : PySem.W.Frag} {r : R2} {ro : DO2} {ta tb : TE} {da db : DT} (ho : OpD K r ro) (ha : SemE K ta da) (hb : SemE K tb db) : SemE K (tOp r ta tb) (dOp ro da db) :=
  fun F hF ρ QD h W H σ R Q p => by
    refine ha.use hF h R fun v1 d1 W1 H1 A1 R1 o1 q1 => ?_
    obtain ⟨dw, rfl, q1⟩ := q1
    refine hb.use hF q1 R1 fun v2 d2 W2 H2 A2 R2 o2 q2 => ?_
    obtain ⟨dx, rfl, q2⟩ := q2
    refine ho F hF W2 H2 σ ρ v1 v2 dw.norm dx.norm QD Q R2 (o1.later A2.ex) o2 ?_ (p.from (A1.trans A2))
    rw [DV.norm_data, DV.norm_data]
    exact q2
def oI (C : Int → Int → Prop) (g : Int → Int → PyData) : DO2 := fun x y Q => match x, y with
  | .int i, .int j => C i j ∧ Q (.k (g i j))
  | _, _ => False
def oI0 (g : Int → Int → PyData) : DO2 := fun x y Q => match x, y with
  | .int i, .int j => Q (.k (g i j))
  | _, _ => False
section
variable {K : PySem.W.Frag}
theorem opd_I0 {g : Int → Int → V} {gd : Int → Int → PyData} (h : ∀ W i j, Rp K W (g i j) (gd i j)) : OpD K (rI0 g) (oI0 gd) := fun F hF W H σ ρ v1 v2 d1 d2 QD Q R o1 o2 q p => by
  unfold oI0 at q
  split at q
  · rename_i i j e1 e2
    refine ⟨i, j, o1.int R e1, o2.int R e2, p.here R ?_ q⟩
    rw [hF]
    exact h W i j
  · exact q.elim
theorem opd_I {C : Int → Int → Prop} {g : Int → Int → V} {gd : Int → Int → PyData} (h : ∀ W i j, Rp K W (g i j) (gd i j)) : OpD K (rI C g) (oI C gd) := fun F hF W H σ ρ v1 v2 d1 d2 QD Q R o1 o2 q p => by
  unfold oI at q
  split at q
  · rename_i i j e1 e2
    refine ⟨i, j, o1.int R e1, o2.int R e2, q.1, p.here R ?_ q.2⟩
    rw [hF]
    exact h W i j
  · exact q.elim
end
theorem szl {n : Nat} (h : n ≤ 100000) : n ≤ sizeLine := Nat.le_trans h (by decide)
/-! + -/
def oAdd : DO2 := fun x y Q => match x, y with
  | .int i, .int j => Q (.k (.int (i + j)))
  | .str a, .str b => a.length + b.length ≤ 100000 ∧ Q (.k (.str (a ++ b)))
  | .list xs, .list ys => xs.length + ys.length ≤ 100000 ∧ Q (.f (xs ++ ys))
  | .tuple xs, .tuple ys => xs.length + ys.length ≤ 100000 ∧ Q (.k (.tuple (xs ++ ys)))
  | _, _ => False
def rAddAll (K : PySem.W.Frag) : R2 := fun x y H Q => rI0 (fun i j => .int (i + j)) x y H Q ∨ (∃ i j, x = .str i ∧ y = .str j ∧ i.length + j.length ≤ sizeLine ∧ Q (.str (i ++ j)) H) ∨
  rCat x y H Q ∨ rCatA K x y H Q
section
variable {X : Cx}
theorem op_addAll : OpR X (binaryOp .Add) (rAddAll X.K) := op_add.or (op_add_str.or (op_cat.or op_catA))
theorem opd_add {K : PySem.W.Frag} : OpD K (rAddAll K) oAdd := fun F hF W H σ ρ v1 v2 d1 d2 QD Q R o1 o2 q p => by
  unfold oAdd at q
  split at q
  · rename_i i j e1 e2
    exact .inl ⟨i, j, o1.int R e1, o2.int R e2, p.here R (.int _) q⟩
  · rename_i i j e1 e2
    exact .inr (.inl ⟨i, j, o1.str R e1, o2.str R e2, szl q.1, p.here R (.str _) q.2⟩)
  · rename_i i j e1 e2
    obtain ⟨a, xs, rfl, h1, h2⟩ := o1.list R e1
    obtain ⟨b, ys, rfl, h3, h4⟩ := o2.list R e2
    have n1 := h2.length
    have n2 := h4.length
    exact .inr (.inr (.inl ⟨a, b, xs, ys, rfl, rfl, h1, h3, szl (by omega), p.newL R (h2.append h4) q.2⟩))
  · rename_i i j e1 e2
    obtain ⟨a, xs, rfl, h1, h2⟩ := o1.tup R e1
    obtain ⟨b, ys, rfl, h3, h4⟩ := o2.tup R e2
    have n1 := h2.length
    have n2 := h4.length
    subst hF
    refine .inr (.inr (.inr ⟨a, b, xs, ys, rfl, rfl, h1, h3, szl (by omega), fun e => ?_, fun e e' => ?_, fun e e' => ?_⟩))
    · subst e
      cases h2
      cases d2 with
      | k d => exact p.here R o2 (by rw [show d = PyData.tuple j from e2]; exact q.2)
      | r i ds => cases e2
      | f ds => cases e2
    · subst e'
      cases h4
      rw [List.append_nil] at q
      cases d1 with
      | k d => exact p.here R o1 (by rw [show d = PyData.tuple i from e1]; exact q.2)
      | r i ds => cases e1
      | f ds => cases e1
    · exact p.newT R (h2.append h4) q.2
  · exact q.elim
theorem de_add {a b : Expr} {ta tb : DT} {pos : Pos} : DE X a ta → DE X b tb → DE X (.BinOp a .Add b pos) (dOp oAdd ta tb)
  | ⟨_, p1, s1⟩, ⟨_, p2, s2⟩ => ⟨_, pe_op op_addAll p1 p2, sem_op opd_add s1 s2⟩
theorem de_sub {a b : Expr} {ta tb : DT} {pos : Pos} : DE X a ta → DE X b tb → DE X (.BinOp a .Sub b pos) (dOp (oI0 fun i j => .int (i - j)) ta tb)
  | ⟨_, p1, s1⟩, ⟨_, p2, s2⟩ => ⟨_, pe_op op_sub p1 p2, sem_op (opd_I0 fun _ _ _ => .int _) s1 s2⟩
end
end DL

namespace DL
open PySem PySem.Spec PyProof.Rows L2

/-! ### comparisons -/
section
variable {K : PySem.W.Frag} {H : Hp}
mutual
theorem Rp.dp : ∀ {v : V} {d : PyData}, Rp K H v d → d.canLay0 = true → Dp K H v d
  | _, _, .non, _ => .non
  | _, _, .bl b, _ => .bl b
  | _, _, .int i, _ => .int i
  | _, _, .str x, _ => .str x
  | _, _, .lst h r, c => .lst (.inl (.inl h)) (RpA.dp r (by simpa [PyData.canLay0] using c))
  | _, _, .tup h r, c => .tup h (RpA.dp r (by simpa [PyData.canLay0] using c))
  | _, _, .dct _ _ _ _ _, c => by simp [PyData.canLay0] at c
  | _, _, .scr _, c => by simp [PyData.canLay0] at c
theorem RpA.dp : ∀ {vs : List V} {ds : List PyData}, RpA K H vs ds → PyData.canLayAll0 ds = true → DpAll K H vs ds
  | _, _, .nil, _ => .nil
  | _, _, .cons h r, c => by
    have c' := c
    simp only [PyData.canLayAll0, Bool.and_eq_true] at c'
    exact .cons (Rp.dp h c'.1) (RpA.dp r c'.2)
end
theorem Rp.sdp {v : V} {d : PyData} (h : Rp K H v d) (s : SeqAt.shaped d = true) : Dp K H v d := h.dp (SeqAt.canLay_of_shaped s)
end
abbrev shp := SeqAt.shaped
def oEq : DO2 := fun x y Q => shp x = true ∧ shp y = true ∧ Q (.k (.bool (PyData.eqv x y)))
def oNe : DO2 := fun x y Q => shp x = true ∧ shp y = true ∧ Q (.k (.bool (!PyData.eqv x y)))
theorem opd_eq {K : PySem.W.Frag} : OpD K (rEqD K) oEq := fun F hF W H σ ρ v1 v2 d1 d2 QD Q R o1 o2 q p => by
  subst hF
  exact ⟨_, _, (o1.data R).sdp q.1, (o2.data R).sdp q.2.1, q.1, q.2.1, p.here R (.bl _) q.2.2⟩
theorem opd_ne {K : PySem.W.Frag} : OpD K (rNeD K) oNe := fun F hF W H σ ρ v1 v2 d1 d2 QD Q R o1 o2 q p => by
  subst hF
  exact ⟨_, _, (o1.data R).sdp q.1, (o2.data R).sdp q.2.1, q.1, q.2.1, p.here R (.bl _) q.2.2⟩
/-- the ints of data -/
def intsOf : List PyData → Option (List Int)
  | [] => some []
  | .int i :: r => (intsOf r).map (i :: ·)
  | _ :: _ => none
theorem intsOf_eq : ∀ {ds : List PyData} {ns : List Int}, intsOf ds = some ns → ds = ns.map PyData.int
  | [], ns, h => by cases h; rfl
  | .int i :: r, ns, h => by
    unfold intsOf at h
    cases q : intsOf r with
    | none => rw [q] at h; cases h
    | some ms =>
      rw [q] at h
      cases h
      rw [intsOf_eq q]
      rfl
  | .none :: _, _, h => by cases h
  | .bool _ :: _, _, h => by cases h
  | .str _ :: _, _, h => by cases h
  | .list _ :: _, _, h => by cases h
  | .tuple _ :: _, _, h => by cases h
  | .dict _ :: _, _, h => by cases h
@[simp] theorem intsOf_map (ns : List Int) : intsOf (ns.map PyData.int) = some ns := by
  induction ns with
  | nil => rfl
  | cons n r ih => simp [intsOf, ih]
def oLt : DO2 := fun x y Q => match x, y with
  | .int i, .int j => Q (.k (.bool (decide (i < j))))
  | .tuple xs, .tuple ys => ∃ ns ms, intsOf xs = some ns ∧ intsOf ys = some ms ∧ Q (.k (.bool (HT.lexLt ns ms)))
  | _, _ => False
def rLtAll (K : PySem.W.Frag) : R2 := fun x y H Q => rI0 (fun i j => .bl (decide (i < j))) x y H Q ∨ rLtT K x y H Q
theorem opd_lt {K : PySem.W.Frag} : OpD K (rLtAll K) oLt := fun F hF W H σ ρ v1 v2 d1 d2 QD Q R o1 o2 q p => by
  subst hF
  unfold oLt at q
  split at q
  · rename_i i j e1 e2
    exact .inl ⟨i, j, o1.int R e1, o2.int R e2, p.here R (.bl _) q⟩
  · rename_i xs ys e1 e2
    obtain ⟨ns, ms, h1, h2, q⟩ := q
    obtain ⟨a, us, rfl, k1, k2⟩ := o1.tup R e1
    obtain ⟨b, ws, rfl, k3, k4⟩ := o2.tup R e2
    rw [intsOf_eq h1] at k2
    rw [intsOf_eq h2] at k4
    rw [RpA.of_ints k2] at k1
    rw [RpA.of_ints k4] at k3
    exact .inr ⟨a, b, ns, ms, rfl, rfl, k1, k3, p.here R (.bl _) q⟩
  · exact q.elim
/-- is None -/
def isNone : PyData → Bool
  | .none => true
  | _ => false
def oIsN : DO2 := fun x y Q => match y with
  | .none => Q (.k (.bool (isNone x)))
  | _ => False
def oNotN : DO2 := fun x y Q => match y with
  | .none => Q (.k (.bool (!isNone x)))
  | _ => False
theorem Rp.isN {K : PySem.W.Frag} {H : Hp} {v : V} {d : PyData} (h : Rp K H v d) : decide (v = .non) = isNone d := by
  cases h <;> rfl
theorem opd_isN {K : PySem.W.Frag} : OpD K (fun x y H Q => y = .non ∧ Q (.bl (decide (x = .non))) H) oIsN := fun F hF W H σ ρ v1 v2 d1 d2 QD Q R o1 o2 q p => by
  unfold oIsN at q
  split at q
  · rename_i e
    have h := o2.data R
    rw [e] at h
    cases h
    refine ⟨rfl, p.here R ?_ q⟩
    rw [(o1.data R).isN]
    exact .bl _
  · exact q.elim
theorem opd_notN {K : PySem.W.Frag} : OpD K (fun x y H Q => y = .non ∧ Q (.bl (!decide (x = .non))) H) oNotN := fun F hF W H σ ρ v1 v2 d1 d2 QD Q R o1 o2 q p => by
  unfold oNotN at q
  split at q
  · rename_i e
    have h := o2.data R
    rw [e] at h
    cases h
    refine ⟨rfl, p.here R ?_ q⟩
    rw [(o1.data R).isN]
    exact .bl _
  · exact q.elim
/-- in -/
def inStr (i j : Str) : Bool := !(Builtin.Str.occurrences j i 0 j.length 1).isEmpty
def oIn (neg : Bool) : DO2 := fun x y Q => match y with
  | .list ds => shp x = true ∧ shp (.list ds) = true ∧ Q (.k (.bool (xor neg (ds.any fun z => PyData.eqv z x))))
  | .tuple ds => shp x = true ∧ shp (.tuple ds) = true ∧ Q (.k (.bool (xor neg (ds.any fun z => PyData.eqv z x))))
  | .str j => (match x with
    | .str i => Q (.k (.bool (xor neg (inStr i j))))
    | _ => False)
  | _ => False
def rInT (K : PySem.W.Frag) (neg : Bool) : R2 := fun x y H Q => ∃ d ds, Dp K H x d ∧ Dp K H y (.tuple ds) ∧ shp d = true ∧ shp (.tuple ds) = true ∧ Q (.bl (xor neg (ds.any fun z => PyData.eqv z d))) H
section
variable {X : Cx}
theorem room_inT {A : Around} {ds : List PyData} {d : PyData} (s : shp d = true) (hu : A.units + 65 < cLine) : A.units + 1 + min (PyData.depthAll ds) d.depth < cLine := by
  have h1 := SeqAt.depth_of_shaped s
  omega
theorem op_inT (hu : X.A.units + 65 < cLine) : OpR X (compareOp .In) (rInT X.K false) := by
  intro pins s σ H x y v u Q I rx ry h
  obtain ⟨d, ds, hd, he, sd, se, q⟩ := h
  obtain ⟨as, r1⟩ := Dp.reads I d x v hd rx
  obtain ⟨bs, r2⟩ := Dp.reads I (.tuple ds) y u he ry
  refine SeqAt.in_tuple_reads r2 r1 (SeqAt.canLay_of_shaped se) (SeqAt.canLay_of_shaped sd) (room_inT sd hu) ⟨.bl _, H, I, rfl, ?_⟩
  rw [Bool.false_xor] at q
  exact q
theorem op_notInT (hu : X.A.units + 65 < cLine) : OpR X (compareOp .NotIn) (rInT X.K true) := by
  intro pins s σ H x y v u Q I rx ry h
  obtain ⟨d, ds, hd, he, sd, se, q⟩ := h
  obtain ⟨as, r1⟩ := Dp.reads I d x v hd rx
  obtain ⟨bs, r2⟩ := Dp.reads I (.tuple ds) y u he ry
  refine SeqAt.notIn_tuple_reads r2 r1 (SeqAt.canLay_of_shaped se) (SeqAt.canLay_of_shaped sd) (room_inT sd hu) ⟨.bl _, H, I, rfl, ?_⟩
  rw [Bool.true_xor] at q
  exact q
end
def rInAll (K : PySem.W.Frag) : R2 := fun x y H Q => rInD K x y H Q ∨ rInT K false x y H Q ∨ (∃ i j, x = .str i ∧ y = .str j ∧ Q (.bl (!(Builtin.Str.occurrences j i 0 j.length 1).isEmpty)) H)
def rNotInAll (K : PySem.W.Frag) : R2 := fun x y H Q => rNotInD K x y H Q ∨ rInT K true x y H Q ∨ (∃ i j, x = .str i ∧ y = .str j ∧ Q (.bl (!(!(Builtin.Str.occurrences j i 0 j.length 1).isEmpty))) H)
theorem opd_in {K : PySem.W.Frag} : OpD K (rInAll K) (oIn false) := fun F hF W H σ ρ v1 v2 d1 d2 QD Q R o1 o2 q p => by
  subst hF
  have h2 := o2.data R
  unfold oIn at q
  split at q
  · rename_i ds e
    rw [e] at h2
    rw [Bool.false_xor] at q
    exact .inl ⟨_, ds, (o1.data R).sdp q.1, h2.sdp q.2.1, q.1, q.2.1, p.here R (.bl _) q.2.2⟩
  · rename_i ds e
    rw [e] at h2
    exact .inr (.inl ⟨_, ds, (o1.data R).sdp q.1, h2.sdp q.2.1, q.1, q.2.1, p.here R (.bl _) q.2.2⟩)
  · rename_i j e
    split at q
    · rename_i i e1
      rw [Bool.false_xor] at q
      exact .inr (.inr ⟨i, j, o1.str R e1, o2.str R e, p.here R (.bl _) q⟩)
    · exact q.elim
  · exact q.elim
theorem opd_notIn {K : PySem.W.Frag} : OpD K (rNotInAll K) (oIn true) := fun F hF W H σ ρ v1 v2 d1 d2 QD Q R o1 o2 q p => by
  subst hF
  have h2 := o2.data R
  unfold oIn at q
  split at q
  · rename_i ds e
    rw [e] at h2
    rw [Bool.true_xor] at q
    exact .inl ⟨_, ds, (o1.data R).sdp q.1, h2.sdp q.2.1, q.1, q.2.1, p.here R (.bl _) q.2.2⟩
  · rename_i ds e
    rw [e] at h2
    exact .inr (.inl ⟨_, ds, (o1.data R).sdp q.1, h2.sdp q.2.1, q.1, q.2.1, p.here R (.bl _) q.2.2⟩)
  · rename_i j e
    split at q
    · rename_i i e1
      rw [Bool.true_xor] at q
      exact .inr (.inr ⟨i, j, o1.str R e1, o2.str R e, p.here R (.bl _) q⟩)
    · exact q.elim
  · exact q.elim

/-- a comparison's rule -/
structure Cmp (X : Cx) (op : CmpOp) (ro : DO2) : Prop where
  ex : ∃ r, OpR X (compareOp op) r ∧ OpD X.K r ro
section
variable {X : Cx}
theorem cm_eq (hu : X.A.units + 64 < cLine) : Cmp X .Eq oEq := ⟨_, op_eqD hu, opd_eq⟩
theorem cm_ne (hu : X.A.units + 64 < cLine) : Cmp X .NotEq oNe := ⟨_, op_neD hu, opd_ne⟩
theorem cm_lt (hu : X.A.units + 64 < cLine) : Cmp X .Lt oLt := ⟨_, op_lt.or (op_ltT (by omega)), opd_lt⟩
abbrev oLe : DO2 := oI0 fun i j => .bool (decide (i ≤ j))
abbrev oGt : DO2 := oI0 fun i j => .bool (decide (j < i))
abbrev oGe : DO2 := oI0 fun i j => .bool (decide (j ≤ i))
theorem cm_le : Cmp X .LtE oLe := ⟨_, op_le, opd_I0 fun _ _ _ => .bl _⟩
theorem cm_gt : Cmp X .Gt oGt := ⟨_, op_gt, opd_I0 fun _ _ _ => .bl _⟩
theorem cm_ge : Cmp X .GtE oGe := ⟨_, op_ge, opd_I0 fun _ _ _ => .bl _⟩
theorem cm_isN : Cmp X .Is oIsN := ⟨_, op_isN, opd_isN⟩
theorem cm_notN : Cmp X .IsNot oNotN := ⟨_, op_notN, opd_notN⟩
theorem cm_in (hu : X.A.units + 65 < cLine) : Cmp X .In (oIn false) := ⟨_, (op_inD hu).or ((op_inT hu).or op_in_str), opd_in⟩
theorem cm_notIn (hu : X.A.units + 65 < cLine) : Cmp X .NotIn (oIn true) := ⟨_, (op_notInD hu).or ((op_notInT hu).or op_notin_str), opd_notIn⟩
variable {a b c : Expr} {ta tb tc : DT} {pos : Pos} {op op' : CmpOp} {ro ro' : DO2}
theorem de_cmp (h : Cmp X op ro) (ha : DE X a ta) (hb : DE X b tb) (hm : behindInMarks op b = false := by first | exact nomark _ | rfl) : DE X (.Compare a [op] [b] pos) (dOp ro ta tb) := by
  obtain ⟨r, h1, h2⟩ := h
  obtain ⟨_, p1, s1⟩ := ha
  obtain ⟨_, p2, s2⟩ := hb
  exact ⟨_, pe_cmpR h1 p1 p2 hm, sem_op h2 s1 s2⟩
/-- the truth of a bool -/
def dTest (t : DT) : DB := fun ρ Q => t ρ fun x => match x.data with
  | .bool b => Q b
  | _ => False
theorem sem_test {K : PySem.W.Frag} {te : TE} {t : DT} (s : SemE K te t) : SemT K (tTest te) (dTest t) := fun F hF ρ QD h W H σ R Q p => by
  refine s.use hF h R fun v dv W1 H1 A1 R1 o q => ?_
  obtain ⟨dw, rfl, q⟩ := q
  (try dsimp only at q)
  split at q
  · rename_i b e
    exact ⟨b, o.bool R1 (by rw [DV.norm_data]; exact e), p b W1 H1 A1 R1 q⟩
  · exact q.elim
theorem dt_cmp (h : Cmp X op ro) (ha : DE X a ta) (hb : DE X b tb) (hm : behindInMarks op b = false := by first | exact nomark _ | rfl) : DTs X (.Compare a [op] [b] pos) (dTest (dOp ro ta tb)) := by
  obtain ⟨r, h1, h2⟩ := h
  obtain ⟨_, p1, s1⟩ := ha
  obtain ⟨_, p2, s2⟩ := hb
  exact ⟨_, pt_cmpR h1 p1 p2 hm, sem_test (sem_op h2 s1 s2)⟩
theorem dt_val {e : Expr} {t : DT} (h : DE X e t) (he : ∀ whole, isTrue e X.env whole = (do let v ← whole; standAt e.pos; holding [v] (truthy v)) := by intro _; rfl) : DTs X e (dTest t) := by
  obtain ⟨_, p1, s1⟩ := h
  exact ⟨_, pt_val p1 he, sem_test s1⟩
/-- a chain -/
def dChain (ro ro' : DO2) (ta tb tc : DT) : DT := fun ρ Q => ta ρ fun x => tb ρ fun y => ro x.data y.data fun z => match z.data with
  | .bool k => if k = true then tc ρ fun w => ro' y.data w.data Q else Q (.k (.bool false))
  | _ => False
theorem sem_chain {K : PySem.W.Frag} {r r' : R2} {t1 t2 t3 : TE} (ho : OpD K r ro) (ho' : OpD K r' ro') (ha : SemE K t1 ta) (hb : SemE K t2 tb) (hc : SemE K t3 tc) :
    SemE K (tChain r r' t1 t2 t3) (dChain ro ro' ta tb tc) := fun F hF ρ QD h W H σ R Q p => by
  refine ha.use hF h R fun v1 d1 W1 H1 A1 R1 o1 q1 => ?_
  obtain ⟨dw, rfl, q1⟩ := q1
  refine hb.use hF q1 R1 fun v2 d2 W2 H2 A2 R2 o2 q2 => ?_
  obtain ⟨dx, rfl, q2⟩ := q2
  have o1' := o1.later A2.ex
  refine ho F hF W2 H2 σ ρ v1 v2 dw.norm dx.norm (fun z => match z.data with
    | .bool k => if k = true then tc ρ fun w => ro' dx.data w.data QD else QD (.k (.bool false))
    | _ => False) _ R2 o1' o2 (by rw [DV.norm_data, DV.norm_data]; exact q2) fun z dz W3 H3 A3 R3 vz qz => ?_
  (try dsimp only at qz)
  split at qz
  · rename_i k e
    have hz := vz.data R3
    rw [e] at hz
    cases hz
    refine ⟨k, rfl, ?_⟩
    cases k with
    | false => exact iteF ((p.from ((A1.trans A2).trans A3)).here R3 (.bl false) qz)
    | true =>
      refine iteT (hc.use hF (show tc ρ (fun w => ro' dx.data w.data QD) from qz) R3 fun v4 d4 W4 H4 A4 R4 o4 q4 => ?_)
      obtain ⟨dy, rfl, q4⟩ := q4
      refine ho' F hF W4 H4 σ ρ v2 v4 dx.norm dy.norm QD Q R4 (o2.later (A3.ex.trans A4.ex)) o4 ?_ (p.from (((A1.trans A2).trans A3).trans A4))
      rw [DV.norm_data, DV.norm_data]
      exact q4
  · exact qz.elim
theorem de_chain (h : Cmp X op ro) (h' : Cmp X op' ro') (ha : DE X a ta) (hb : DE X b tb) (hc : DE X c tc) (hm : lastMarks [op, op'] [b, c] = false := by with_unfolding_all rfl) :
    DE X (.Compare a [op, op'] [b, c] pos) (dChain ro ro' ta tb tc) := by
  obtain ⟨r, h1, h2⟩ := h
  obtain ⟨r', h3, h4⟩ := h'
  obtain ⟨_, p1, s1⟩ := ha
  obtain ⟨_, p2, s2⟩ := hb
  obtain ⟨_, p3, s3⟩ := hc
  exact ⟨_, pe_chain h1 h3 p1 p2 p3 hm, sem_chain h2 h4 s1 s2 s3⟩
theorem dt_chain (h : Cmp X op ro) (h' : Cmp X op' ro') (ha : DE X a ta) (hb : DE X b tb) (hc : DE X c tc) (hm : lastMarks [op, op'] [b, c] = false := by with_unfolding_all rfl) :
    DTs X (.Compare a [op, op'] [b, c] pos) (dTest (dChain ro ro' ta tb tc)) := by
  obtain ⟨r, h1, h2⟩ := h
  obtain ⟨r', h3, h4⟩ := h'
  obtain ⟨_, p1, s1⟩ := ha
  obtain ⟨_, p2, s2⟩ := hb
  obtain ⟨_, p3, s3⟩ := hc
  exact ⟨_, pt_chain h1 h3 p1 p2 p3 hm, sem_test (sem_chain h2 h4 s1 s2 s3)⟩

/-! ### and, or, not, if -/
variable {A B : DB} {rest : List Expr}
def dAndT (t u : DB) : DB := fun ρ Q => t ρ fun c => if c = true then u ρ Q else Q false
def dOrT (t u : DB) : DB := fun ρ Q => t ρ fun c => if c = true then Q true else u ρ Q
def dNotT (t : DB) : DB := fun ρ Q => t ρ fun c => Q (!c)
theorem dw_and1 : DTs X a A → DW X (.BoolOp .And [a] pos) A
  | ⟨_, p, s⟩ => ⟨_, pw_and1 p, s⟩
theorem dw_or1 : DTs X a A → DW X (.BoolOp .Or [a] pos) A
  | ⟨_, p, s⟩ => ⟨_, pw_or1 p, s⟩
theorem dw_and : DTs X a A → DW X (.BoolOp .And (b :: rest) pos) B → DW X (.BoolOp .And (a :: b :: rest) pos) (dAndT A B)
  | ⟨_, p, s⟩, ⟨_, p2, s2⟩ => ⟨_, pw_and p p2, fun F hF ρ QD h W H σ R Q k => s F hF ρ _ h W H σ R _ fun c W1 H1 A1 R1 q => by
    cases c with
    | true => exact iteT (s2 F hF ρ QD q W1 H1 σ R1 Q fun c W2 H2 A2 R2 q => k c W2 H2 (A1.trans A2) R2 q)
    | false => exact iteF (k false W1 H1 A1 R1 q)⟩
theorem dw_or : DTs X a A → DW X (.BoolOp .Or (b :: rest) pos) B → DW X (.BoolOp .Or (a :: b :: rest) pos) (dOrT A B)
  | ⟨_, p, s⟩, ⟨_, p2, s2⟩ => ⟨_, pw_or p p2, fun F hF ρ QD h W H σ R Q k => s F hF ρ _ h W H σ R _ fun c W1 H1 A1 R1 q => by
    cases c with
    | true => exact iteT (k true W1 H1 A1 R1 q)
    | false => exact iteF (s2 F hF ρ QD q W1 H1 σ R1 Q fun c W2 H2 A2 R2 q => k c W2 H2 (A1.trans A2) R2 q)⟩
theorem dt_w {e : Expr} : DW X e A → DTs X e A
  | ⟨_, p, s⟩ => ⟨_, p.pt, s⟩
theorem dt_not : DTs X a A → DTs X (.UnaryOp .Not a pos) (dNotT A)
  | ⟨_, p, s⟩ => ⟨_, pt_not p, fun F hF ρ QD h W H σ R Q k => s F hF ρ _ h W H σ R _ fun c W1 H1 A1 R1 q => k (!c) W1 H1 A1 R1 q⟩
def dAnd (ta tb : DT) : DT := fun ρ Q => ta ρ fun x => match x.data with
  | .bool c => if c = true then tb ρ Q else Q (.k (.bool false))
  | _ => False
def dOr (ta tb : DT) : DT := fun ρ Q => ta ρ fun x => match x.data with
  | .bool c => if c = true then Q (.k (.bool true)) else tb ρ Q
  | _ => False
def dNot (ta : DT) : DT := fun ρ Q => ta ρ fun x => match x.data with
  | .bool c => Q (.k (.bool (!c)))
  | _ => False
theorem de_one {o} {t : DT} : DE X a t → DE X (.BoolOp o [a] pos) t
  | ⟨_, p, s⟩ => ⟨_, pe_one p, s⟩
theorem de_and : DE X a ta → DE X (.BoolOp .And (b :: rest) pos) tb → DE X (.BoolOp .And (a :: b :: rest) pos) (dAnd ta tb)
  | ⟨_, p, s⟩, ⟨_, p2, s2⟩ => ⟨_, pe_and p p2, fun F hF ρ QD h W H σ R Q k => s.use hF h R fun v dv W1 H1 A1 R1 o q => by
    obtain ⟨dw, rfl, q⟩ := q
    (try dsimp only at q)
    split at q
    · rename_i c e
      refine ⟨c, o.bool R1 (by rw [DV.norm_data]; exact e), ?_⟩
      cases c with
      | true => exact iteT (s2 F hF ρ QD q W1 H1 σ R1 Q (k.from A1))
      | false => exact iteF ((k.from A1).here R1 (.bl false) q)
    · exact q.elim⟩
theorem de_or : DE X a ta → DE X (.BoolOp .Or (b :: rest) pos) tb → DE X (.BoolOp .Or (a :: b :: rest) pos) (dOr ta tb)
  | ⟨_, p, s⟩, ⟨_, p2, s2⟩ => ⟨_, pe_or p p2, fun F hF ρ QD h W H σ R Q k => s.use hF h R fun v dv W1 H1 A1 R1 o q => by
    obtain ⟨dw, rfl, q⟩ := q
    (try dsimp only at q)
    split at q
    · rename_i c e
      refine ⟨c, o.bool R1 (by rw [DV.norm_data]; exact e), ?_⟩
      cases c with
      | true => exact iteT ((k.from A1).here R1 (.bl true) q)
      | false => exact iteF (s2 F hF ρ QD q W1 H1 σ R1 Q (k.from A1))
    · exact q.elim⟩
theorem de_not : DE X a ta → DE X (.UnaryOp .Not a pos) (dNot ta)
  | ⟨_, p, s⟩ => ⟨_, pe_not p, fun F hF ρ QD h W H σ R Q k => s.use hF h R fun v dv W1 H1 A1 R1 o q => by
    obtain ⟨dw, rfl, q⟩ := q
    (try dsimp only at q)
    split at q
    · rename_i c e
      exact ⟨c, o.bool R1 (by rw [DV.norm_data]; exact e), (k.from A1).here R1 (.bl _) q⟩
    · exact q.elim⟩
def dIf (t : DB) (ta tb : DT) : DT := fun ρ Q => t ρ fun c => if c = true then ta ρ Q else tb ρ Q
theorem de_if : DTs X c A → DE X a ta → DE X b tb → DE X (.IfExp c a b pos) (dIf A ta tb)
  | ⟨_, p, s⟩, ⟨_, p1, s1⟩, ⟨_, p2, s2⟩ => ⟨_, pe_ifExp p p1 p2, fun F hF ρ QD h W H σ R Q k => s F hF ρ _ h W H σ R _ fun c W1 H1 A1 R1 q => by
    cases c with
    | true => exact iteT (s1 F hF ρ QD q W1 H1 σ R1 Q (k.from A1))
    | false => exact iteF (s2 F hF ρ QD q W1 H1 σ R1 Q (k.from A1))⟩
end
end DL

namespace DL
open PySem PySem.Spec PyProof.Rows L2

/-! ### argument lists, displays -/
abbrev DTA := List Sl → (List DV → Prop) → Prop
inductive OpdA (F : Fx) (σ : L2.St) (ρ : List Sl) (W : Hp) : List V → List DV → Prop
  | nil : OpdA F σ ρ W [] []
  | cons {v : V} {vs : List V} {d : DV} {ds : List DV} : Opd F σ ρ W v d → OpdA F σ ρ W vs ds → OpdA F σ ρ W (v :: vs) (d :: ds)
def SemA (K : PySem.W.Frag) (ta : TA) (t : DTA) : Prop := ∀ (F : Fx), F.K = K → ∀ ρ QD, t ρ QD → ∀ W H σ, Rel F W H σ ρ → ∀ Q : List V → Hp → Prop,
  (∀ vs ds W' H', Adv F.P W H W' H' → Rel F W' H' σ ρ → OpdA F σ ρ W' vs ds → QD ds → Q vs H') → ta σ H Q
structure DAs (X : Cx) (es : List Expr) (t : DTA) : Prop where
  ex : ∃ ta, PA X es ta ∧ SemA X.K ta t
def dNil : DTA := fun _ Q => Q []
def dCons (t : DT) (ta : DTA) : DTA := fun ρ Q => t ρ fun x => ta ρ fun xs => Q (x.norm :: xs)
section
variable {X : Cx} {e : Expr} {es : List Expr} {t : DT} {ta : DTA} {pos : Pos}
theorem da_nil : DAs X [] dNil := ⟨_, pa_nil, fun F hF ρ QD h W H σ R Q p => p [] [] W H Adv.refl R .nil h⟩
theorem da_cons (h1 : DE X e t) (h2 : DAs X es ta) (hs : starEach (e :: es) X.env = (false, eval e X.env) :: starEach es X.env := by rfl) : DAs X (e :: es) (dCons t ta) := by
  obtain ⟨_, p1, s1⟩ := h1
  obtain ⟨_, p2, s2⟩ := h2
  refine ⟨_, pa_cons p1 p2 hs, fun F hF ρ QD h W H σ R Q p => s1.use hF h R fun v dv W1 H1 A1 R1 o q => ?_⟩
  obtain ⟨dw, rfl, q⟩ := q
  exact s2 F hF ρ _ q W1 H1 σ R1 _ fun vs ds W2 H2 A2 R2 oa q2 => p (v :: vs) (dw.norm :: ds) W2 H2 (A1.trans A2) R2 (.cons (o.later A2.ex) oa) q2
/-- what may be kept of all of them -/
def toDs : List DV → Option (List PyData)
  | [] => some []
  | .k d :: r => (toDs r).map (d :: ·)
  | _ :: _ => none
theorem OpdA.keep {F : Fx} {σ : L2.St} {ρ : List Sl} {W : Hp} : ∀ {vs : List V} {xs : List DV} {ds : List PyData}, OpdA F σ ρ W vs xs → toDs xs = some ds → RpA F.K W vs ds
  | _, _, ds, .nil, e => by cases e; exact .nil
  | _, _, ds, .cons (d := d) (ds := xs) o r, e => by
    cases d with
    | k d =>
      unfold toDs at e
      cases q : toDs xs with
      | none => rw [q] at e; cases e
      | some es =>
        rw [q] at e
        cases e
        exact .cons o (r.keep q)
    | r i ds => cases e
    | f ds => cases e
theorem OpdA.length {F : Fx} {σ : L2.St} {ρ : List Sl} {W : Hp} : ∀ {vs : List V} {xs : List DV}, OpdA F σ ρ W vs xs → vs.length = xs.length
  | _, _, .nil => rfl
  | _, _, .cons _ r => congrArg (· + 1) r.length
def dTup (ta : DTA) : DT := fun ρ Q => ta ρ fun xs => ∃ ds, toDs xs = some ds ∧ ds.length ≤ 100000 ∧ Q (.k (.tuple ds))
def dLst (ta : DTA) : DT := fun ρ Q => ta ρ fun xs => ∃ ds, toDs xs = some ds ∧ ds.length ≤ 100000 ∧ Q (.f ds)
theorem de_tup {x1} (h : DAs X es ta) : DE X (.Tuple es x1 pos) (dTup ta) := by
  obtain ⟨_, p1, s1⟩ := h
  refine ⟨_, pe_tup p1, fun F hF ρ QD h W H σ R Q p => s1 F hF ρ _ h W H σ R _ fun vs xs W1 H1 A1 R1 o q => ?_⟩
  obtain ⟨ds, e, hl, q⟩ := q
  have k := o.keep e
  exact ⟨by rw [k.length]; exact szl hl, (p.from A1).newT R1 k q⟩
theorem de_lst (h : DAs X es ta) : DE X (.List es pos) (dLst ta) := by
  obtain ⟨_, p1, s1⟩ := h
  refine ⟨_, pe_lst p1, fun F hF ρ QD h W H σ R Q p => s1 F hF ρ _ h W H σ R _ fun vs xs W1 H1 A1 R1 o q => ?_⟩
  obtain ⟨ds, e, hl, q⟩ := q
  have k := o.keep e
  exact ⟨by rw [k.length]; exact szl hl, (p.from A1).newL R1 k q⟩
end

/-! ### one operand -/
abbrev DO1 := PyData → (DV → Prop) → Prop
def UnD (K : PySem.W.Frag) (r : V → Hp → VK → Prop) (ro : DO1) : Prop := ∀ (F : Fx), F.K = K → ∀ W H σ ρ v d QD Q, Rel F W H σ ρ → Opd F σ ρ W v d → ro d.data QD → Post F W H σ ρ QD Q → r v H Q
def dUn (ro : DO1) (t : DT) : DT := fun ρ Q => t ρ fun x => ro x.data Q
theorem sem_un {K : PySem.W.Frag} {r : V → Hp → VK → Prop} {ro : DO1} {te : TE} {t : DT} (ho : UnD K r ro) (s : SemE K te t) : SemE K (fun σ H Q => te σ H fun x H1 => r x H1 Q) (dUn ro t) :=
  fun F hF ρ QD h W H σ R Q p => s.use hF h R fun v dv W1 H1 A1 R1 o q => by
    obtain ⟨dw, rfl, q⟩ := q
    exact ho F hF W1 H1 σ ρ v _ QD Q R1 o (by rw [DV.norm_data]; exact q) (p.from A1)
/-! ### calls of built-ins, of the text's defs -/
def OpdData (ds : List DV) : List PyData := ds.map DV.data
abbrev DON := List PyData → (DV → Prop) → Prop
/-- a call of a known value with operands -/
def CallD (K : PySem.W.Frag) (r : List V → Hp → VK → Prop) (ro : DON) : Prop := ∀ (F : Fx), F.K = K → ∀ W H σ ρ vs ds QD Q, Rel F W H σ ρ → OpdA F σ ρ W vs ds → ro (OpdData ds) QD → Post F W H σ ρ QD Q → r vs H Q
def dCallB (ro : DON) (ta : DTA) : DT := fun ρ Q => ta ρ fun xs => ro (OpdData xs) Q
section
variable {X : Cx} {e : Expr} {es : List Expr} {ta : DTA} {pos p : Pos} {x : Str} {id : String} {r : List V → Hp → VK → Prop} {ro : DON}
theorem de_callB (hc : CallR X (.builtin id) r) (ho : CallD X.K r ro) (hg : Gl X x) (hm : X.mg x = none) (hv : bootBuiltins x = some (.builtin id)) (h : DAs X (e :: es) ta)
    (hn : x ≠ "__name__" := by decide) (hdb : (x == ("__debug__" : Str)) = false := by decide)
    (he : starEach (e :: es) X.env = (false, eval e X.env) :: starEach es X.env := by rfl) (hpl : (backTo pos (starEach es X.env)).any (·.1) = false := by rfl) : DE X (.Call (.Name x p) (e :: es) [] pos) (dCallB ro ta) := by
  obtain ⟨_, p1, s1⟩ := h
  exact ⟨_, pe_callB hc hg hm hv p1 hn hdb he hpl, fun F hF ρ QD h W H σ R Q p => s1 F hF ρ _ h W H σ R _ fun vs ds W1 H1 A1 R1 o q => ho F hF W1 H1 σ ρ vs ds QD Q R1 o q (p.from A1)⟩
theorem de_callTy (hc : CallR X (.type id) r) (ho : CallD X.K r ro) (hg : Gl X x) (hm : X.mg x = none) (hv : bootBuiltins x = some (.type id)) (h : DAs X (e :: es) ta)
    (hn : x ≠ "__name__" := by decide) (hdb : (x == ("__debug__" : Str)) = false := by decide)
    (he : starEach (e :: es) X.env = (false, eval e X.env) :: starEach es X.env := by rfl) (hpl : (backTo pos (starEach es X.env)).any (·.1) = false := by rfl) : DE X (.Call (.Name x p) (e :: es) [] pos) (dCallB ro ta) := by
  obtain ⟨_, p1, s1⟩ := h
  exact ⟨_, pe_callTy hc hg hm hv p1 hn hdb he hpl, fun F hF ρ QD h W H σ R Q p => s1 F hF ρ _ h W H σ R _ fun vs ds W1 H1 A1 R1 o q => ho F hF W1 H1 σ ρ vs ds QD Q R1 o q (p.from A1)⟩
end
/-! len, abs, int, tuple, list, all, any, isinstance -/
def oLen : DON := fun xs Q => match xs with
  | [.list ds] => Q (.k (.int ds.length))
  | [.tuple ds] => Q (.k (.int ds.length))
  | [.str s] => s.length ≤ 100000 ∧ Q (.k (.int s.length))
  | _ => False
def rLenAll (K : PySem.W.Frag) : List V → Hp → VK → Prop := fun xs H Q => (∃ p ys, xs = [.ref p] ∧ (SqL K H p ys ∨ SqT K H p ys) ∧ Q (.int ys.length) H) ∨ ∃ z, xs = [.str z] ∧ z.length ≤ sizeLine ∧ Q (.int z.length) H
theorem opdA1 {F : Fx} {σ : L2.St} {ρ : List Sl} {W : Hp} {vs : List V} {ds : List DV} {d : PyData} (o : OpdA F σ ρ W vs ds) (e : OpdData ds = [d]) : ∃ v dv, vs = [v] ∧ ds = [dv] ∧ Opd F σ ρ W v dv ∧ dv.data = d := by
  cases o with
  | nil => cases e
  | cons o r =>
    cases r with
    | nil => cases e; exact ⟨_, _, rfl, rfl, o, rfl⟩
    | cons _ _ => cases e
theorem opdA2 {F : Fx} {σ : L2.St} {ρ : List Sl} {W : Hp} {vs : List V} {ds : List DV} {d d' : PyData} (o : OpdA F σ ρ W vs ds) (e : OpdData ds = [d, d']) :
    ∃ v v' dv dv', vs = [v, v'] ∧ ds = [dv, dv'] ∧ Opd F σ ρ W v dv ∧ Opd F σ ρ W v' dv' ∧ dv.data = d ∧ dv'.data = d' := by
  cases o with
  | nil => cases e
  | cons o r =>
    cases r with
    | nil => cases e
    | cons o' r =>
      cases r with
      | nil => cases e; exact ⟨_, _, _, _, rfl, rfl, o, o', rfl, rfl⟩
      | cons _ _ => cases e
section
variable {K : PySem.W.Frag} {X : Cx}
theorem cd_len : CallD K (rLenAll K) oLen := fun F hF W H σ ρ vs ds QD Q R o q p => by
  subst hF
  unfold oLen at q
  split at q
  · rename_i es e
    obtain ⟨v, dv, rfl, rfl, o, e⟩ := opdA1 o e
    obtain ⟨a, xs, rfl, h1, h2⟩ := o.list R e
    refine .inl ⟨a, xs, rfl, .inl (.inl (.inl h1)), p.here R ?_ q⟩
    rw [h2.length]
    exact .int _
  · rename_i es e
    obtain ⟨v, dv, rfl, rfl, o, e⟩ := opdA1 o e
    obtain ⟨a, xs, rfl, h1, h2⟩ := o.tup R e
    refine .inl ⟨a, xs, rfl, .inr h1, p.here R ?_ q⟩
    rw [h2.length]
    exact .int _
  · rename_i s e
    obtain ⟨v, dv, rfl, rfl, o, e⟩ := opdA1 o e
    obtain rfl := o.str R e
    exact .inr ⟨s, rfl, szl q.1, p.here R (.int _) q.2⟩
  · exact q.elim
theorem cr_len : CallR X (.builtin "len") (rLenAll X.K) := call_len_seq.or call_len_str
def oInt : DON := fun xs Q => match xs with
  | [.int i] => Q (.k (.int i))
  | [.bool b] => Q (.k (.int (if b then 1 else 0)))
  | _ => False
theorem cd_int : CallD K (fun xs H Q => (∃ i, xs = [.int i] ∧ Q (.int i) H) ∨ ∃ k, xs = [.bl k] ∧ Q (.int (if k then 1 else 0)) H) oInt := fun F hF W H σ ρ vs ds QD Q R o q p => by
  unfold oInt at q
  split at q
  · rename_i i e
    obtain ⟨v, dv, rfl, rfl, o, e⟩ := opdA1 o e
    obtain rfl := o.int R e
    exact .inl ⟨i, rfl, p.here R (.int _) q⟩
  · rename_i i e
    obtain ⟨v, dv, rfl, rfl, o, e⟩ := opdA1 o e
    obtain rfl := o.bool R e
    exact .inr ⟨i, rfl, p.here R (.int _) q⟩
  · exact q.elim
def oTuple : DON := fun xs Q => match xs with
  | [.list ds] => Q (.k (.tuple ds))
  | [.tuple ds] => Q (.k (.tuple ds))
  | _ => False
theorem cd_tuple : CallD K (fun xs H Q => ∃ p ys, xs = [.ref p] ∧ ((SqL K H p ys ∧ ∀ l, H l = none → Q (.ref l) (upd H l (.tup ys))) ∨ (SqT K H p ys ∧ Q (.ref p) H))) oTuple := fun F hF W H σ ρ vs ds QD Q R o q p => by
  subst hF
  unfold oTuple at q
  split at q
  · rename_i es e
    obtain ⟨v, dv, rfl, rfl, o, e⟩ := opdA1 o e
    obtain ⟨a, xs, rfl, h1, h2⟩ := o.list R e
    exact ⟨a, xs, rfl, .inl ⟨.inl (.inl h1), p.newT R h2 q⟩⟩
  · rename_i es e
    obtain ⟨v, dv, rfl, rfl, o, e⟩ := opdA1 o e
    obtain ⟨a, xs, rfl, h1, h2⟩ := o.tup R e
    refine ⟨a, xs, rfl, .inr ⟨h1, ?_⟩⟩
    cases dv with
    | k d =>
      obtain rfl : d = PyData.tuple es := e
      exact p.here R o q
    | r i ds => cases e
    | f ds => cases e
  · exact q.elim
def oList : DON := fun xs Q => match xs with
  | [.list ds] => Q (.f ds)
  | [.tuple ds] => Q (.f ds)
  | _ => False
theorem cd_list : CallD K (fun xs H Q => ∃ p ys, xs = [.ref p] ∧ (SqL K H p ys ∨ SqT K H p ys) ∧ ∀ l, H l = none → Q (.ref l) (upd H l (.lst ys))) oList := fun F hF W H σ ρ vs ds QD Q R o q p => by
  subst hF
  unfold oList at q
  split at q
  · rename_i es e
    obtain ⟨v, dv, rfl, rfl, o, e⟩ := opdA1 o e
    obtain ⟨a, xs, rfl, h1, h2⟩ := o.list R e
    exact ⟨a, xs, rfl, .inl (.inl (.inl h1)), p.newL R h2 q⟩
  · rename_i es e
    obtain ⟨v, dv, rfl, rfl, o, e⟩ := opdA1 o e
    obtain ⟨a, xs, rfl, h1, h2⟩ := o.tup R e
    exact ⟨a, xs, rfl, .inr h1, p.newL R h2 q⟩
  · exact q.elim
def oAbs : DON := fun xs Q => match xs with
  | [.int i] => Q (.k (.int (if i < 0 then -i else i)))
  | _ => False
theorem cd_abs : CallD K (fun xs H Q => ∃ i, xs = [.int i] ∧ Q (.int (if i < 0 then -i else i)) H) oAbs := fun F hF W H σ ρ vs ds QD Q R o q p => by
  unfold oAbs at q
  split at q
  · rename_i i e
    obtain ⟨v, dv, rfl, rfl, o, e⟩ := opdA1 o e
    obtain rfl := o.int R e
    exact ⟨i, rfl, p.here R (.int _) q⟩
  · exact q.elim
/-- the bools of data -/
def boolsOf : List PyData → Option (List Bool)
  | [] => some []
  | .bool i :: r => (boolsOf r).map (i :: ·)
  | _ :: _ => none
theorem boolsOf_eq : ∀ {ds : List PyData} {ns : List Bool}, boolsOf ds = some ns → ds = ns.map PyData.bool
  | [], ns, h => by cases h; rfl
  | .bool i :: r, ns, h => by
    unfold boolsOf at h
    cases q : boolsOf r with
    | none => rw [q] at h; cases h
    | some ms =>
      rw [q] at h
      cases h
      rw [boolsOf_eq q]
      rfl
  | .none :: _, _, h => by cases h
  | .int _ :: _, _, h => by cases h
  | .str _ :: _, _, h => by cases h
  | .list _ :: _, _, h => by cases h
  | .tuple _ :: _, _, h => by cases h
  | .dict _ :: _, _, h => by cases h
@[simp] theorem boolsOf_map (ns : List Bool) : boolsOf (ns.map PyData.bool) = some ns := by
  induction ns with
  | nil => rfl
  | cons n r ih => simp [boolsOf, ih]
def oAll : DON := fun xs Q => match xs with
  | [.list ds] => ∃ bs, boolsOf ds = some bs ∧ Q (.k (.bool (bs.all id)))
  | _ => False
def oAny : DON := fun xs Q => match xs with
  | [.list ds] => ∃ bs, boolsOf ds = some bs ∧ Q (.k (.bool (bs.any id)))
  | _ => False
theorem cd_all : CallD K (rAll K) oAll := fun F hF W H σ ρ vs ds QD Q R o q p => by
  subst hF
  unfold oAll at q
  split at q
  · rename_i es e
    obtain ⟨bs, hb, q⟩ := q
    obtain ⟨v, dv, rfl, rfl, o, e⟩ := opdA1 o e
    obtain ⟨a, xs, rfl, h1, h2⟩ := o.list R e
    rw [boolsOf_eq hb] at h2
    rw [RpA.bools h2] at h1
    exact ⟨a, bs, rfl, .inl (.inl h1), p.here R (.bl _) q⟩
  · exact q.elim
theorem cd_any : CallD K (rAny K) oAny := fun F hF W H σ ρ vs ds QD Q R o q p => by
  subst hF
  unfold oAny at q
  split at q
  · rename_i es e
    obtain ⟨bs, hb, q⟩ := q
    obtain ⟨v, dv, rfl, rfl, o, e⟩ := opdA1 o e
    obtain ⟨a, xs, rfl, h1, h2⟩ := o.list R e
    rw [boolsOf_eq hb] at h2
    rw [RpA.bools h2] at h1
    exact ⟨a, bs, rfl, .inl (.inl h1), p.here R (.bl _) q⟩
  · exact q.elim
/-- isinstance(x, T), T one of the plain built-in types -/
def tyD : PyData → String
  | .none => "NoneType"
  | .bool _ => "bool"
  | .int _ => "int"
  | .str _ => "str"
  | .list _ => "list"
  | .tuple _ => "tuple"
  | .dict [(.none, _)] => "list"
  | .dict _ => "dict"
theorem kD_none (k : Key) : kD k ≠ .none := by cases k <;> exact fun z => nomatch z
theorem tyD_dct {kds : List (PyData × PyData)} {kvs : List (Key × V)} (h : kds.map (·.1) = kvs.map (fun p => kD p.1)) : tyD (.dict kds) = "dict" := by
  match kds, kvs, h with
  | [], _, _ => rfl
  | [(.none, _)], p :: r, h =>
    exact absurd (List.cons.inj h).1.symm (kD_none p.1)
  | (.none, _) :: _ :: _, _, _ => rfl
  | (.bool _, _) :: _, _, _ => rfl
  | (.int _, _) :: _, _, _ => rfl
  | (.str _, _) :: _, _, _ => rfl
  | (.list _, _) :: _, _, _ => rfl
  | (.tuple _, _) :: _, _, _ => rfl
  | (.dict _, _) :: _, _, _ => rfl
theorem Rp.ty {H : Hp} {v : V} {d : PyData} (h : Rp K H v d) : TyX K H v (.type (tyD d)) := by
  cases h with
  | non => exact .base .non
  | bl b => exact .base (.bl b)
  | int i => exact .base (.int i)
  | str x => exact .base (.str x)
  | lst h _ => exact .base (.lst h)
  | tup h _ =>
    rcases h with (h | ⟨o, h⟩) | ⟨o, its, n, h1, h2, h3⟩
    · exact .base (.tup h)
    · exact .fTuple h
    · exact .kTuple h1 h2
  | dct h h1 _ _ _ =>
    rw [tyD_dct h1]
    exact .base (.dK h)
  | scr h =>
    rcases h with (h | ⟨o, h⟩) | ⟨o, its, n, h1, h2, _⟩
    · exact .base (.lst h)
    · exact .base (.frz h)
    · exact .kList h1 h2
def isT (T : String) (d : PyData) : Bool := tyD d == T || (T == "int" && tyD d == "bool")
def dIsi (T : String) (t : DT) : DT := fun ρ Q => t ρ fun x => Q (.k (.bool (isT T x.data)))
theorem de_isi {T : String} {e1 : Expr} {t : DT} {p pos : Pos} {x y : Str} {p2 : Pos} (h : DE X e1 t)
    (hg : Gl X x) (hm : X.mg x = none) (hv : bootBuiltins x = some (.builtin "isinstance"))
    (hg2 : Gl X y) (hm2 : X.mg y = none) (hv2 : bootBuiltins y = some (.type T)) (hk : ∀ d, kitB (tyD d) T = some (isT T d))
    (hn : x ≠ "__name__" := by decide) (hdb : (x == ("__debug__" : Str)) = false := by decide) (hn2 : y ≠ "__name__" := by decide) (hdb2 : (y == ("__debug__" : Str)) = false := by decide)
    (hs : starEach [e1, .Name y p2] X.env = (false, eval e1 X.env) :: starEach [.Name y p2] X.env := by rfl)
    (hs2 : starEach [.Name y p2] X.env = (false, eval (.Name y p2) X.env) :: starEach [] X.env := by rfl)
    (hpl : (backTo pos (starEach [.Name y p2] X.env)).any (·.1) = false := by rfl) : DE X (.Call (.Name x p) [e1, .Name y p2] [] pos) (dIsi T t) := by
  obtain ⟨_, p1, s1⟩ := h
  refine ⟨_, pe_callB call_isi hg hm hv (pa_cons p1 (pa_cons (pe_bltn (v := .ty T) hg2 hm2 hv2 rfl hn2 hdb2) pa_nil hs2) hs) hn hdb hs hpl, fun F hF ρ QD h W H σ R Q p => ?_⟩
  refine s1.use hF h R fun v dv W1 H1 A1 R1 o q => ?_
  obtain ⟨dw, rfl, q⟩ := q
  refine ⟨v, .ty T, _, _, _, rfl, .ty T, ?_, kit_ty (hk dw.data), (p.from A1).here R1 (.bl _) q⟩
  have z := (o.data R1).ty
  rw [DV.norm_data] at z
  rw [← hF]
  exact z
def tyNames : List String := ["NoneType", "bool", "int", "str", "list", "tuple", "dict"]
theorem kit_by {T : String} (h : tyNames.all (fun n => kitB n T == some (n == T || (T == "int" && n == "bool"))) = true) (d : PyData) : kitB (tyD d) T = some (isT T d) := by
  have q := List.all_eq_true.mp h (tyD d) (by unfold tyD tyNames; split <;> simp)
  exact eq_of_beq q
theorem kit_tupleT : ∀ d, kitB (tyD d) "tuple" = some (isT "tuple" d) := kit_by (by decide +kernel)
theorem kit_intT : ∀ d, kitB (tyD d) "int" = some (isT "int" d) := kit_by (by decide +kernel)
theorem kit_boolT : ∀ d, kitB (tyD d) "bool" = some (isT "bool" d) := kit_by (by decide +kernel)
theorem kit_strT : ∀ d, kitB (tyD d) "str" = some (isT "str" d) := kit_by (by decide +kernel)
theorem kit_listT : ∀ d, kitB (tyD d) "list" = some (isT "list" d) := kit_by (by decide +kernel)
theorem kit_dictT : ∀ d, kitB (tyD d) "dict" = some (isT "dict" d) := kit_by (by decide +kernel)
end
end DL

namespace DL
open PySem PySem.Spec PyProof.Rows L2

/-! ### {} -/
theorem de_dict0 {X : Cx} {pos : Pos} : DE X (.Dict [] [] pos) (dC (.dict [])) :=
  ⟨_, pe_dnewK, fun F hF ρ QD q W H σ R Q p => fun d hd => by
    have A : Adv (fun _ => False) W H (upd W d (.dK [])) (upd H d (.dK [])) := Adv.new hd R.sub
    have r : Rp F.K (upd W d (.dK [])) (.ref d) (.dict []) := Rp.dct (kvs := []) (vs := []) (ds := []) upd_same rfl rfl rfl .nil
    exact p _ (.k (.dict [])) _ _ (A.mono fun _ z => z.elim) (R.step0 A (same_upd2 R.sub)) r q⟩

/-! ### numbers -/
theorem tuple_mul1 (l : Addr) (items : Array Value) (n : Nat) (dd : Option Addr) (sl : Array (Option Value)) (u : Tok) (c1 : items.isEmpty = false) :
    Meets (Builtin.«tuple.__mul__» ⟨[.ref l, .int 1 u], []⟩) (fun _ R s => s.heap.get? l = some { cls := .type "tuple", dict := dd, data := .seq items n, slots := sl } ∧
      R (.ok (.ret (Value.ref l))) s) :=
  .of_wp fun prog w A R s h => by
    obtain ⟨hp, g, d, tk, os⟩ := s
    obtain ⟨hl, h⟩ := h
    have f1 := AutoSeq1.idx_int
    wp_walk using wpAny_loadPart' hl
    exact ⟨_, rfl, h⟩
def rRepT1 (K : PySem.W.Frag) : R2 := fun x y H Q => ∃ l xs, x = .ref l ∧ y = .int 1 ∧ SqT K H l xs ∧ xs ≠ [] ∧ Q (.ref l) H
theorem op_repT1 {X : Cx} : OpR X (binaryOp .Mult) (rRepT1 X.K) := by
  intro pins s σ H x y v u Q I rx ry h
  obtain ⟨l, xs, rfl, rfl, hT, hne, q⟩ := h
  cases rx
  obtain ⟨t, rfl⟩ := ry
  obtain ⟨its, r, ⟨⟨cls, dd, data, sl⟩, ho, hc, n, hd⟩, hs⟩ := I.tuple hT
  simp only at hc hd
  subst hc hd
  have hle : its.length = xs.length := r.length.symm
  have hi : its.toArray.isEmpty = false := by
    cases its with
    | nil => exact absurd (List.eq_nil_of_length_eq_zero hle.symm) hne
    | cons a b => rfl
  exact wpAny_binaryOp_repeat_ref (T := "tuple") (U := "int") (by decide) ⟨_, ho, rfl⟩ (fun s' => typeIs_int s' 1 t) noFill_tuple_mul F.fills_int_mul F.slot_int_rmul repeat_tuple F.slot_int_index.lookup
    (call_meets F.slot_int_rmul (typeIs_int s 1 t) F.entry_int_rmul (F.args_int_rmul_2 _ _) (int_rmul_tuple 1 t l its.toArray n dd sl)
      ⟨ho, rfl, ⟨_, ho, rfl⟩, call_meets F.slot_tuple_mul ⟨_, ho, rfl⟩ F.entry_tuple_mul (F.args_tuple_mul_2 _ _) (tuple_mul1 l its.toArray n dd sl t hi) ⟨ho, ⟨.ref l, H, I, rfl, q⟩⟩⟩)
def oMul : DO2 := fun x y Q => match x, y with
  | .int i, .int j => CMul i j ∧ Q (.k (.int (i * j)))
  | .list xs, .int k => -(2 ^ 63) ≤ k ∧ k < 2 ^ 63 ∧ xs.length * k.toNat ≤ 100000 ∧ Q (.f (List.replicate k.toNat xs).flatten)
  | .tuple xs, .int k => xs ≠ [] ∧ 1 ≤ k ∧ k ≤ 1000 ∧ xs.length ≤ 1000 ∧ Q (.k (.tuple (List.replicate k.toNat xs).flatten))
  | _, _ => False
def rMulAll (K : PySem.W.Frag) : R2 := fun x y H Q => rI CMul (fun i j => .int (i * j)) x y H Q ∨ rRep x y H Q ∨ rRepT K x y H Q ∨ rRepT1 K x y H Q
theorem RpA.rep {K : PySem.W.Frag} {W : Hp} {xs : List V} {ds : List PyData} (h : RpA K W xs ds) : ∀ n, RpA K W (List.replicate n xs).flatten (List.replicate n ds).flatten
  | 0 => .nil
  | n + 1 => by
    rw [List.replicate_succ, List.replicate_succ, List.flatten_cons, List.flatten_cons]
    exact h.append (RpA.rep h n)
theorem opd_mul {K : PySem.W.Frag} : OpD K (rMulAll K) oMul := fun F hF W H σ ρ v1 v2 d1 d2 QD Q R o1 o2 q p => by
  subst hF
  unfold oMul at q
  split at q
  · rename_i i j e1 e2
    exact .inl ⟨i, j, o1.int R e1, o2.int R e2, q.1, p.here R (.int _) q.2⟩
  · rename_i ds k e1 e2
    obtain ⟨a, xs, rfl, h1, h2⟩ := o1.list R e1
    obtain ⟨q1, q2, q3, q⟩ := q
    have n := h2.length
    exact .inr (.inl ⟨a, k, xs, rfl, o2.int R e2, h1, q1, q2, szl (by rw [n]; exact q3), p.newL R (h2.rep _) q⟩)
  · rename_i ds k e1 e2
    obtain ⟨a, xs, rfl, h1, h2⟩ := o1.tup R e1
    obtain ⟨q0, q1, q2, q3, q⟩ := q
    have n := h2.length
    have hx : xs ≠ [] := by
      rintro rfl
      cases h2
      exact q0 rfl
    by_cases z : k = 1
    · subst z
      rw [show (List.replicate (1 : Int).toNat ds).flatten = ds by simp] at q
      have o3 : Rp F.K W (.ref a) (.tuple ds) := by
        cases d1 with
        | k d => rw [← e1]; exact o1
        | r i es => cases e1
        | f es => cases e1
      exact .inr (.inr (.inr ⟨a, xs, rfl, o2.int R e2, h1, hx, p.here R o3 q⟩))
    · exact .inr (.inr (.inl ⟨a, k, xs, rfl, o2.int R e2, h1, hx, by omega, q2, by omega, p.newT R (h2.rep _) q⟩))
  · exact q.elim
section
variable {X : Cx} {a b : Expr} {ta tb : DT} {pos : Pos}
theorem de_mul : DE X a ta → DE X b tb → DE X (.BinOp a .Mult b pos) (dOp oMul ta tb)
  | ⟨_, p1, s1⟩, ⟨_, p2, s2⟩ => ⟨_, pe_op (op_mul.or (op_rep.or (op_repT.or op_repT1))) p1 p2, sem_op opd_mul s1 s2⟩
theorem de_mod : DE X a ta → DE X b tb → DE X (.BinOp a .Mod b pos) (dOp (oI (fun _ j => 0 < j) fun i j => .int (i % j)) ta tb)
  | ⟨_, p1, s1⟩, ⟨_, p2, s2⟩ => ⟨_, pe_op op_mod p1 p2, sem_op (opd_I fun _ _ _ => .int _) s1 s2⟩
theorem de_fdiv : DE X a ta → DE X b tb → DE X (.BinOp a .FloorDiv b pos) (dOp (oI CDiv fun i j => .int (i / j)) ta tb)
  | ⟨_, p1, s1⟩, ⟨_, p2, s2⟩ => ⟨_, pe_op op_fdiv p1 p2, sem_op (opd_I fun _ _ _ => .int _) s1 s2⟩
theorem de_fdivW : DE X a ta → DE X b tb → DE X (.BinOp a .FloorDiv b pos) (dOp (oI CDivW fun i j => .int (i / j)) ta tb)
  | ⟨_, p1, s1⟩, ⟨_, p2, s2⟩ => ⟨_, pe_op op_fdivW p1 p2, sem_op (opd_I fun _ _ _ => .int _) s1 s2⟩
theorem de_pow : DE X a ta → DE X b tb → DE X (.BinOp a .Pow b pos) (dOp (oI CPow fun i j => .int (i ^ j.toNat)) ta tb)
  | ⟨_, p1, s1⟩, ⟨_, p2, s2⟩ => ⟨_, pe_op op_pow p1 p2, sem_op (opd_I fun _ _ _ => .int _) s1 s2⟩
def oNeg : DO1 := fun x Q => match x with
  | .int i => Q (.k (.int (-i)))
  | _ => False
theorem de_neg : DE X a ta → DE X (.UnaryOp .USub a pos) (dUn oNeg ta)
  | ⟨_, p1, s1⟩ => ⟨_, pe_un un_neg p1, sem_un (r := rU fun i => .int (-i)) (fun F hF W H σ ρ v d QD Q R o q p => by
    unfold oNeg at q
    split at q
    · rename_i i e
      exact ⟨i, o.int R e, p.here R (.int _) q⟩
    · exact q.elim) s1⟩
end

/-! ### subscripts -/
theorem RpA.at {K : PySem.W.Frag} {W : Hp} {xs : List V} {ds : List PyData} {i : Int} {d : PyData} (h : RpA K W xs ds) (e : atI ds i = some d) : ∃ v, atI xs i = some v ∧ Rp K W v d := by
  unfold atI at e ⊢
  rw [h.length]
  cases q : ixN ds.length i with
  | none => rw [q] at e; cases e
  | some j =>
    rw [q] at e
    obtain ⟨v, h1, h2⟩ := h.get (i := j) e
    exact ⟨v, h1, h2⟩
def oIx : DO2 := fun x y Q => match x, y with
  | .list ds, .int i => ∃ d, atI ds i = some d ∧ Q (.k d)
  | .tuple ds, .int i => ∃ d, atI ds i = some d ∧ Q (.k d)
  | .str s, .int i => s.length ≤ 100000 ∧ ∃ c, atI s.cps.toList i = some c ∧ Q (.k (.str ⟨#[c]⟩))
  | _, _ => False
theorem opd_ix {K : PySem.W.Frag} : OpD K (rIx K) oIx := fun F hF W H σ ρ v1 v2 d1 d2 QD Q R o1 o2 q p => by
  subst hF
  unfold oIx at q
  split at q
  · rename_i ds i e1 e2
    obtain ⟨d, e, q⟩ := q
    obtain ⟨a, xs, rfl, h1, h2⟩ := o1.list R e1
    obtain ⟨v, k1, k2⟩ := h2.at e
    exact .inl ⟨a, xs, i, v, rfl, o2.int R e2, .inl (.inl h1), k1, p.here R k2 q⟩
  · rename_i ds i e1 e2
    obtain ⟨d, e, q⟩ := q
    obtain ⟨a, xs, rfl, h1, h2⟩ := o1.tup R e1
    obtain ⟨v, k1, k2⟩ := h2.at e
    exact .inr (.inl ⟨a, xs, i, v, rfl, o2.int R e2, h1, k1, p.here R k2 q⟩)
  · rename_i s i e1 e2
    obtain ⟨hl, c, e, q⟩ := q
    exact .inr (.inr ⟨s, i, c, o1.str R e1, o2.int R e2, szl hl, e, p.here R (.str _) q⟩)
  · exact q.elim
section
variable {X : Cx} {a b : Expr} {ta tb : DT} {pos : Pos}
theorem de_ix (h1 : DE X a ta) (h2 : DE X b tb) (hs : PlainIx b := by intro _ _; rfl) : DE X (.Subscript a b pos) (dOp oIx ta tb) := by
  obtain ⟨_, p1, s1⟩ := h1
  obtain ⟨_, p2, s2⟩ := h2
  exact ⟨_, pe_ix ix_seq p1 p2 hs, sem_op opd_ix s1 s2⟩
end
/-- xs[lo:hi] -/
def cutD (ds : List PyData) (lo hi : Option Int) : List PyData := (ds.drop (HT.sIx ds.length 0 lo)).take (HT.sIx ds.length ds.length hi - HT.sIx ds.length 0 lo)
theorem RpA.cut {K : PySem.W.Frag} {W : Hp} {xs : List V} {ds : List PyData} (h : RpA K W xs ds) (lo hi : Option Int) : RpA K W (cutV xs lo hi) (cutD ds lo hi) := by
  unfold cutV cutD
  rw [h.length]
  exact (h.drop _).take _
theorem cutD_whole {ds : List PyData} {lo hi : Option Int} (h1 : HT.sIx ds.length 0 lo = 0) (h2 : HT.sIx ds.length ds.length hi = ds.length) : cutD ds lo hi = ds := by
  unfold cutD
  rw [h1, h2]
  simp
abbrev DOp := List Sl → (Option Int → Prop) → Prop
def SemO (K : PySem.W.Frag) (to : TO) (t : DOp) : Prop := ∀ (F : Fx), F.K = K → ∀ ρ QD, t ρ QD → ∀ W H σ, Rel F W H σ ρ → ∀ Q : Option Int → Hp → Prop,
  (∀ o W' H', Adv F.P W H W' H' → Rel F W' H' σ ρ → QD o → Q o H') → to σ H Q
structure DOs (X : Cx) (e : Option Expr) (t : DOp) : Prop where
  ex : ∃ to, PO X e to ∧ SemO X.K to t
def dNoPart : DOp := fun _ Q => Q none
def dPart (t : DT) : DOp := fun ρ Q => t ρ fun x => match x.data with
  | .int i => Q (some i)
  | _ => False
def oSl (lo hi : Option Int) : DO1 := fun x Q => match x with
  | .list ds => Q (.f (cutD ds lo hi))
  | .tuple ds => Q (.k (.tuple (cutD ds lo hi)))
  | _ => False
def dSl (t : DT) (tl th : DOp) : DT := fun ρ Q => t ρ fun x => tl ρ fun l => th ρ fun u => oSl l u x.data Q
section
variable {X : Cx} {e : Expr} {t : DT} {lo hi : Option Expr} {tl th : DOp} {pos p2 : Pos}
theorem do_none : DOs X none dNoPart := ⟨_, po_none, fun F hF ρ QD h W H σ R Q p => p none W H Adv.refl R h⟩
theorem do_some (h : DE X e t) : DOs X (some e) (dPart t) := by
  obtain ⟨_, p1, s1⟩ := h
  refine ⟨_, po_some p1, fun F hF ρ QD h W H σ R Q p => s1.use hF h R fun v dv W1 H1 A1 R1 o q => ?_⟩
  obtain ⟨dw, rfl, q⟩ := q
  (try dsimp only at q)
  split at q
  · rename_i i e
    exact ⟨i, o.int R1 (by rw [DV.norm_data]; exact e), p _ W1 H1 A1 R1 q⟩
  · exact q.elim
theorem de_sl (h : DE X e t) (h1 : DOs X lo tl) (h2 : DOs X hi th) : DE X (.Subscript e (.Slice lo hi none p2) pos) (dSl t tl th) := by
  obtain ⟨_, p1, s1⟩ := h
  obtain ⟨_, p2, s2⟩ := h1
  obtain ⟨_, p3, s3⟩ := h2
  refine ⟨_, pe_slice (sl_list.or sl_tupA) p1 p2 p3, fun F hF ρ QD h W H σ R Q p => s1.use hF h R fun v dv W1 H1 A1 R1 o q => ?_⟩
  obtain ⟨dw, rfl, q0⟩ := q
  refine s2 F hF ρ _ q0 W1 H1 σ R1 _ fun l W2 H2 A2 R2 q1 => s3 F hF ρ _ q1 W2 H2 σ R2 _ fun u W3 H3 A3 R3 q => ?_
  clear q0 q1
  have o' := o.later (A2.ex.trans A3.ex)
  have p' := p.from ((A1.trans A2).trans A3)
  rw [← hF]
  unfold oSl at q
  split at q
  · rename_i ds e
    obtain ⟨a, xs, rfl, h1, h2⟩ := o'.list R3 (by rw [DV.norm_data]; exact e)
    exact .inl ⟨a, xs, rfl, .inl (.inl h1), p'.newL R3 (h2.cut l u) q⟩
  · rename_i ds e
    have e' : dw.norm.data = .tuple ds := by rw [DV.norm_data]; exact e
    obtain ⟨a, xs, rfl, h1, h2⟩ := o'.tup R3 e'
    refine .inr ⟨a, xs, rfl, h1, fun z => ?_, fun z => p'.newT R3 (h2.cut l u) q⟩
    rw [h2.length] at z
    rw [cutD_whole z.1 z.2] at q
    cases dw with
    | k d =>
      obtain rfl : d = PyData.tuple ds := e
      exact p'.here R3 o' q
    | r i ds => cases e
    | f ds => cases e
  · exact q.elim
end
/-! script[lo:hi] -/
def oSlS (lo hi : Option Int) : DO1 := fun x Q => match x with
  | .dict [(.none, .list ds)] => Q (.f (cutD ds lo hi))
  | _ => False
def dSlS (t : DT) (tl th : DOp) : DT := fun ρ Q => t ρ fun x => tl ρ fun l => th ρ fun u => oSlS l u x.data Q
theorem Rp.script {K : PySem.W.Frag} {H : Hp} : ∀ {v : V} {ds : List PyData}, Rp K H v (.dict [(.none, .list ds)]) → ∃ (a : Addr) (ns : List Int), v = .ref a ∧ SqL K H a (ns.map V.int) ∧ ds = ns.map PyData.int
  | _, _, .scr (a := a) (ns := ns) h => ⟨a, ns, rfl, h, rfl⟩
  | _, _, .dct (kvs := kvs) h1 h2 _ _ _ => by
    match kvs, h2 with
    | p :: r, h2 =>
      exact absurd (List.cons.inj h2).1.symm (kD_none p.1)
section
variable {X : Cx} {e : Expr} {t : DT} {lo hi : Option Expr} {tl th : DOp} {pos p2 : Pos}
theorem de_slS (h : DE X e t) (h1 : DOs X lo tl) (h2 : DOs X hi th) : DE X (.Subscript e (.Slice lo hi none p2) pos) (dSlS t tl th) := by
  obtain ⟨_, p1, s1⟩ := h
  obtain ⟨_, p2, s2⟩ := h1
  obtain ⟨_, p3, s3⟩ := h2
  refine ⟨_, pe_slice sl_list p1 p2 p3, fun F hF ρ QD h W H σ R Q p => s1.use hF h R fun v dv W1 H1 A1 R1 o q => ?_⟩
  obtain ⟨dw, rfl, q0⟩ := q
  refine s2 F hF ρ _ q0 W1 H1 σ R1 _ fun l W2 H2 A2 R2 q1 => s3 F hF ρ _ q1 W2 H2 σ R2 _ fun u W3 H3 A3 R3 q => ?_
  clear q0 q1
  have o' := o.later (A2.ex.trans A3.ex)
  have p' := p.from ((A1.trans A2).trans A3)
  have dd := o'.data R3
  rw [DV.norm_data] at dd
  rw [← hF]
  unfold oSlS at q
  split at q
  · rename_i ds e
    rw [e] at dd
    obtain ⟨a, ns, rfl, h1, rfl⟩ := dd.script
    exact ⟨a, ns.map V.int, rfl, h1, p'.newL R3 ((RpA.ints ns).cut l u) q⟩
  · exact q.elim
end
/-! xs[::-1] -/
def oRev : DO1 := fun x Q => match x with
  | .list ds => Q (.f ds.reverse)
  | .tuple ds => Q (.k (.tuple ds.reverse))
  | _ => False
def tRevS (K : PySem.W.Frag) (te : TE) : TE := fun σ H Q => te σ H fun x H1 => ∃ a xs, x = .ref a ∧ ((SqL K H1 a xs ∧ ∀ p, H1 p = none → Q (.ref p) (upd H1 p (.lst xs.reverse))) ∨
  (SqT K H1 a xs ∧ ∀ p, H1 p = none → Q (.ref p) (upd H1 p (.tup xs.reverse))))
section
variable {prog : Program} {w : World} {A : Around} {E : Value → Shared → Prop} {s : Shared}
theorem slicedBack {sl : Addr} {vl vu vs : Value} {n : Nat} {Q : Int × Int × Nat → Shared → Prop} (hs : s.heap.IsSliceOf sl vl vu vs) (pl : IsPart vl none) (pu : IsPart vu none) (ps : IsPart vs (some (-1)))
    (h : Q ((n : Int) - 1, -1, n) s) : wpAny (model prog w) A (Builtin.Slice.sliceApplied (.ref sl) (pure (n : Int))) Q E s := by
  obtain ⟨os, hos, hcs, hds⟩ := id hs
  unfold Builtin.Slice.sliceApplied Builtin.Slice.sliceFields
  refine wpAny_bind (wpAny_bind (wpAny_field hos hds (x := vl) rfl (wpAny_bind (wpAny_field hos hds (x := vu) rfl (wpAny_bind (wpAny_field hos hds (x := vs) rfl (wpAny_pure ?_)))))))
  refine wpAny_bind (HT.slicePart_ ps ?_)
  show wpAny (model prog w) A (if ((-1 : Int) == 0) = true then _ else _) Q E s
  rw [if_neg (show ¬ ((-1 : Int) == 0) = true by decide)]
  refine wpAny_bind (HT.slicePart_ pl (wpAny_bind (HT.slicePart_ pu (wpAny_bind (wpAny_pure ?_)))))
  have e1 : Builtin.Slice.sliceAdjust none none (-1) (n : Int) = ((n : Int) - 1, -1) := rfl
  have e2 : Builtin.Slice.slicePlaces ((n : Int) - 1) (-1) (-1) = n := by
    unfold Builtin.Slice.slicePlaces
    rw [if_neg (show ¬ (-1 : Int) > 0 by decide)]
    by_cases z : (n : Int) - 1 > -1
    · rw [if_pos z]
      have : ((n : Int) - 1 - (-1) - 1) / (-(-1 : Int)) + 1 = (n : Int) := by
        rw [show (-(-1 : Int)) = 1 from rfl, Int.ediv_one]
        omega
      omega
    · rw [if_neg z]
      omega
  show wpAny (model prog w) A (match Builtin.Slice.sliceAdjust none none (-1) (n : Int) with
    | (lo, hi) => pure (lo, (-1 : Int), Builtin.Slice.slicePlaces lo hi (-1))) Q E s
  rw [e1]
  show wpAny (model prog w) A (pure ((n : Int) - 1, (-1 : Int), Builtin.Slice.slicePlaces ((n : Int) - 1) (-1) (-1))) Q E s
  rw [e2]
  exact wpAny_pure h
theorem range_all {α : Type} : ∀ r : List α, (List.range r.length).filterMap (fun k => r[k]?) = r
  | [] => rfl
  | a :: r => by
    rw [List.length_cons, List.range_succ_eq_map, List.filterMap_cons_some (f := fun k => (a :: r)[k]?) (b := a) rfl, List.filterMap_map]
    exact congrArg (a :: ·) (range_all r)
theorem fm_congr {α β : Type} {f g : α → Option β} : ∀ {l : List α}, (∀ x ∈ l, f x = g x) → l.filterMap f = l.filterMap g
  | [], _ => rfl
  | a :: r, h => by
    rw [List.filterMap_cons, List.filterMap_cons, h a List.mem_cons_self, fm_congr fun x hx => h x (List.mem_cons_of_mem _ hx)]
theorem back_all {α : Type} (l : List α) : (List.range l.length).filterMap (fun (k : Nat) => l[(((l.length : Int) - 1) + (k : Int) * (-1)).toNat]?) = l.reverse := by
  have h : (List.range l.length).filterMap (fun (k : Nat) => l[(((l.length : Int) - 1) + (k : Int) * (-1)).toNat]?) = (List.range l.reverse.length).filterMap (fun k => l.reverse[k]?) := by
    rw [List.length_reverse]
    refine fm_congr fun k hk => ?_
    have hk' := List.mem_range.mp hk
    rw [List.getElem?_reverse hk', show (((l.length : Int) - 1) + (k : Int) * (-1)).toNat = l.length - 1 - k by omega]
  rw [h, range_all]
theorem getItem_tuple_back {t sl : Addr} {items : Array Value} {vl vu vs : Value} {Q : Value → Shared → Prop} (ht : IsTup s.heap t items) (hs : s.heap.IsSliceOf sl vl vu vs) (pl : IsPart vl none) (pu : IsPart vu none) (ps : IsPart vs (some (-1)))
    (h : Q (.ref s.heap.objs.size) { s with heap := s.heap.push { cls := .type "tuple", data := .seq items.toList.reverse.toArray } }) (hsz : items.size ≤ sizeLine) :
    wpAny (model prog w) A (getItem (.ref t) (.ref sl)) Q E s := by
  obtain ⟨os, hos, hcs, hds⟩ := id hs
  have kind : s.TypeIs (.ref sl) "slice" := ⟨os, hos, hcs⟩
  have room : sizeOk (.seq items.toList.reverse.toArray) := by
    show items.toList.reverse.toArray.size ≤ sizeLine
    rw [List.size_toArray, List.length_reverse, Array.length_toList]
    exact hsz
  unfold getItem
  try with_reducible refine wpAny_holding ?_
  first
    | refine wpAny_bind (wpAny_pure ?_)
    | skip
  refine wpAny_bind (wpAny_sequenceKey ht.typeIs (by decide) ?_)
  refine wpAny_bind (wpAny_callSpecial?_slot (name := Str.ofString "__getitem__") ht.typeIs
    PyProof.Rows.slot_tuple_getitem (wpAny_call_entry PyProof.Rows.slot_tuple_getitem ht.typeIs
      entry_tuple_getitem ?_ (args_tuple_getitem _ _)))
  show wpAny (model prog w) _ (Builtin.Tuple.tupleItemsOf (.ref t) >>= _) _ _ s
  refine wpAny_bind (tupleItemsOf_ ht ?_)
  refine wpAny_bind (wpAny_typeOf kind ?_)
  rw [if_pos (by decide)]
  refine wpAny_bind (slicedBack hs pl pu ps ?_)
  have no : ¬ ((((items.size : Int) - 1) == 0 && (-1 : Int) == 1 && items.size == items.size) = true) := by
    rw [show ((-1 : Int) == 1) = false from rfl, Bool.and_false, Bool.false_and]
    decide
  show wpAny (model prog w) _ (if (((items.size : Int) - 1) == 0 && (-1 : Int) == 1 && items.size == items.size) = true then _ else _) _ _ s
  rw [if_neg no]
  have pick : ((List.range items.size).filterMap fun (k : Nat) => items[(((items.size : Int) - 1) + (k : Int) * (-1)).toNat]?).toArray = items.toList.reverse.toArray := by
    have z := back_all items.toList
    rw [Array.length_toList] at z
    rw [← z]
    simp only [Array.getElem?_toList]
  rw [pick]
  first
    | exact wpAny_bind (m := Builtin.Tuple.tupleExact _) (wpAny_newObj_type (wpAny_pure ⟨_, rfl, wpAny_pure h⟩) room)
    | exact wpAny_bind (m := Builtin.Tuple.tupleExact _) (wpAny_newObj_type (wpAny_bind (wpAny_pure (wpAny_pure ⟨_, rfl, wpAny_pure h⟩))) room)
    | exact wpAny_bind (wpAny_bind (m := Builtin.Tuple.tupleExact _) (wpAny_newObj_type (wpAny_pure (wpAny_pure ⟨_, rfl, wpAny_pure h⟩)) room))
    | exact wpAny_bind (wpAny_bind (m := Builtin.Tuple.tupleExact _) (wpAny_newObj_type (wpAny_pure ⟨_, rfl, wpAny_pure h⟩) room))
end
section
variable {X : Cx}
theorem pe_revS {e : Expr} {te : TE} {k : Nat} {p1 p2 p3 pos : Pos} (he : PE X e te) :
    PE X (.Subscript e (.Slice none none (some (.UnaryOp .USub (.Constant (.int 1) k p1) p2)) p3) pos) (tRevS X.K te) := by
  refine ⟨fun pins s σ H Q I h => ?_⟩
  refine Subscript_ (thn (he.run pins s σ H _ I h) fun v s1 ⟨x, H1, I1, r1, q1⟩ => ?_)
  obtain ⟨a, xs, ex, hq⟩ := q1
  subst ex
  cases r1
  have minus : PO X (some (.UnaryOp .USub (.Constant (.int 1) k p1) p2)) (tPart (tUn (rU fun i => .int (-i)) (tC (.int 1)))) := po_some (pe_un un_neg pe_int)
  refine wpAny_Slice (thn (po_none.run pins s1 σ H1 (fun o G => o = none ∧ G = H1) I1 ⟨rfl, rfl⟩) fun vl s2 ⟨l, H2, I2, pl, el, e2⟩ => ?_)
  subst el e2
  refine thn (po_none.run pins s2 σ H2 (fun o G => o = none ∧ G = H2) I2 ⟨rfl, rfl⟩) fun vu s3 ⟨u, H3, I3, pu, eu, e3⟩ => ?_
  subst eu e3
  refine thn (minus.run pins s3 σ H3 (fun o G => o = some (-1) ∧ G = H3) I3 ⟨1, rfl, -1, rfl, rfl, rfl⟩) fun vs s4 ⟨o, H4, I4, ps, eo, e4⟩ => ?_
  subst eo e4
  have I5 : Inv X pins σ H4 { s4 with heap := s4.heap.push { cls := .type "slice", data := .fields #[vl, vu, vs] } } :=
    I4.kept (t' := s4.toks) fun b ob q => Heap.get?_push_of_some _ q
  show wpAny (model X.prog X.w) X.A (subscriptTail e _ (.ref a) (.ref s4.heap.objs.size)) (EP X pins σ Q) X.xe
    { s4 with heap := s4.heap.push { cls := .type "slice", data := .fields #[vl, vu, vs] } }
  rcases hq with ⟨hx, q⟩ | ⟨hx, q⟩
  · obtain ⟨its, r, ht, hz⟩ := I5.list hx
    have hlen := r.length
    refine tail_any (ops := [.ref a, .ref s4.heap.objs.size]) ht.isList.typeIs (PySem.slot_list_getitem.lookup) ?_ (by with_unfolding_all rfl)
    refine wpAny_getItem_list_slice ht.isList (Heap.IsSliceOf.new _ vl vu vs) pl pu ps (by decide) ?_ (by rw [List.size_toArray]; omega)
    rw [PySem.W.krv_pick]
    refine ⟨.ref _, _, I5.laid (t' := s4.toks) (o := .lst xs.reverse) (fun b ob q => Heap.get?_push_of_some _ q) (Nat.le_refl _) ?_, rfl, q _ (I5.hok.fresh (Nat.le_refl _))⟩
    exact ⟨(List.length_reverse (as := xs)).symm ▸ hz, _, 0, r.reverse, Heap.get?_push_size _ rfl⟩
  · obtain ⟨its, r, ht, hz⟩ := I5.tuple hx
    have hlen := r.length
    refine tail_any (ops := [.ref a, .ref s4.heap.objs.size]) ht.typeIs (PyProof.Rows.slot_tuple_getitem.lookup) ?_ (by with_unfolding_all rfl)
    refine getItem_tuple_back ht (Heap.IsSliceOf.new _ vl vu vs) pl pu ps ?_ (by rw [List.size_toArray]; omega)
    refine ⟨.ref _, _, I5.laid (t' := s4.toks) (o := .tup xs.reverse) (fun b ob q => Heap.get?_push_of_some _ q) (Nat.le_refl _) ?_, rfl, q _ (I5.hok.fresh (Nat.le_refl _))⟩
    refine ⟨(List.length_reverse (as := xs)).symm ▸ hz, _, r.reverse, ?_⟩
    exact IsTup.new _ _
theorem de_rev {e : Expr} {t : DT} {k : Nat} {p1 p2 p3 pos : Pos} (h : DE X e t) :
    DE X (.Subscript e (.Slice none none (some (.UnaryOp .USub (.Constant (.int 1) k p1) p2)) p3) pos) (dUn oRev t) := by
  obtain ⟨_, p1, s1⟩ := h
  refine ⟨_, pe_revS p1, fun F hF ρ QD h W H σ R Q p => s1.use hF h R fun v dv W1 H1 A1 R1 o q0 => ?_⟩
  obtain ⟨dw, rfl, q⟩ := q0
  have p' := p.from A1
  rw [← hF]
  unfold oRev at q
  split at q
  · rename_i ds e
    obtain ⟨a, xs, rfl, h1, h2⟩ := o.list R1 (by rw [DV.norm_data]; exact e)
    exact ⟨a, xs, rfl, .inl ⟨.inl (.inl h1), p'.newL R1 h2.reverse q⟩⟩
  · rename_i ds e
    obtain ⟨a, xs, rfl, h1, h2⟩ := o.tup R1 (by rw [DV.norm_data]; exact e)
    exact ⟨a, xs, rfl, .inr ⟨h1, p'.newT R1 h2.reverse q⟩⟩
  · exact q.elim
end
end DL

namespace DL
open PySem PySem.Spec PyProof.Rows L2

/-! ### readings that hang on the data alone -/
def canonE (K : PySem.W.Frag) (t : DT) : TE := fun σ H Q => ∃ F ρ QD W, Fx.K F = K ∧ t ρ QD ∧ Rel F W H σ ρ ∧ Post F W H σ ρ QD Q
def canonT (K : PySem.W.Frag) (t : DB) : TT := fun σ H Q => ∃ F ρ QD W, Fx.K F = K ∧ t ρ QD ∧ Rel F W H σ ρ ∧ ∀ b W' H', Adv F.P W H W' H' → Rel F W' H' σ ρ → QD b → Q b H'
theorem sem_canonE {K : PySem.W.Frag} {t : DT} : SemE K (canonE K t) t := fun F hF ρ QD h W H σ R Q p => ⟨F, ρ, QD, W, hF, h, R, p⟩
theorem sem_canonT {K : PySem.W.Frag} {t : DB} : SemT K (canonT K t) t := fun F hF ρ QD h W H σ R Q p => ⟨F, ρ, QD, W, hF, h, R, p⟩
section
variable {X : Cx} {e : Expr}
theorem DE.canon {t : DT} (h : DE X e t) : PE X e (canonE X.K t) := by
  obtain ⟨te, p, s⟩ := h
  exact ⟨fun pins st σ H Q I ⟨F, ρ, QD, W, hF, ht, R, q⟩ => p.run pins st σ H Q I (s F hF ρ QD ht W H σ R Q q)⟩
theorem DTs.canon {t : DB} (h : DTs X e t) : PT X e (canonT X.K t) := by
  obtain ⟨te, p, s⟩ := h
  exact ⟨fun pins st σ H Q I ⟨F, ρ, QD, W, hF, ht, R, q⟩ => p.run pins st σ H Q I (s F hF ρ QD ht W H σ R Q q)⟩
end

/-! ### slots stored -/
def okSet (ρ : List Sl) (i : Nat) : Bool := (match ρ[i]? with | some .pot => false | _ => true) && ρ.all (fun s => match s with | .al j => j != i | _ => true)
def dStore (i : Nat) (dv : DV) (ρ : List Sl) (Q : List Sl → Prop) : Prop := okSet ρ i = true ∧ match dv with
  | .k d => Q (ρ.set i (.sh d))
  | .f ds => Q (ρ.set i (.own ds))
  | .r j ds => j ≠ i ∧ Q (ρ.set i (.al j))
theorem okSet_pot {ρ : List Sl} {i : Nat} (h : okSet ρ i = true) : ρ[i]? ≠ some Sl.pot := fun z => by
  unfold okSet at h
  rw [z] at h
  simp at h
theorem okSet_al {ρ : List Sl} {i k : Nat} (h : okSet ρ i = true) (z : ρ[k]? = some (Sl.al i)) : False := by
  unfold okSet at h
  have h2 := List.all_eq_true.mp (Bool.and_eq_true_iff.mp h).2 _ (List.mem_of_getElem? z)
  simp at h2
section
variable {F : Fx} {W H : Hp} {σ : L2.St} {ρ : List Sl}
/-- a slot gets something: what else must be said of it -/
theorem Rel.put (R : Rel F W H σ ρ) {i : Nat} (ok : okSet ρ i = true) {v : Option V} {sl : Sl}
    (hsh : ∀ d, sl = .sh d → ∃ u, v = some u ∧ Rp F.K W u d)
    (hown : ∀ ds, sl = .own ds → ∃ a xs, v = some (.ref a) ∧ F.B a = none ∧ W a = none ∧ H a = some (.lst xs) ∧ RpA F.K W xs ds ∧
      (∀ (k : Nat) (es : List PyData), ρ[k]? = some (Sl.own es) → σ[k]? ≠ some (some (V.ref a))) ∧
      ∀ (k : Nat) (fs gs : List PyData) (t b c : Addr), ρ[k]? = some (Sl.own2 fs gs) → σ[k]? = some (some (V.ref t)) → W t = some (.tup [.ref b, .ref c]) → a ≠ b ∧ a ≠ c)
    (hal : ∀ j, sl = .al j → j ≠ i ∧ ∃ ds u, ρ[j]? = some (Sl.own ds) ∧ v = some u ∧ σ[j]? = some (some u)) (hpot : sl ≠ .pot)
    (ho2 : ∀ ds es, sl ≠ .own2 ds es) : Rel F W H (σ.set i v) (ρ.set i sl) := by
  have hl := R.len
  have gs : ∀ {k : Nat} {x : Sl}, (ρ.set i sl)[k]? = some x → (k = i ∧ i < ρ.length ∧ x = sl) ∨ (k ≠ i ∧ ρ[k]? = some x) := fun {k x} e => by
    by_cases z : k = i
    · subst z
      by_cases q : k < ρ.length
      · rw [List.getElem?_set_self q] at e
        exact .inl ⟨rfl, q, (Option.some.inj e).symm⟩
      · rw [List.getElem?_eq_none (by simpa using q)] at e
        cases e
    · rw [List.getElem?_set_ne (Ne.symm z)] at e
      exact .inr ⟨z, e⟩
  have sg : ∀ {k : Nat}, k ≠ i → (σ.set i v)[k]? = σ[k]? := fun {k} z => List.getElem?_set_ne (Ne.symm z)
  have si : i < ρ.length → (σ.set i v)[i]? = some v := fun q => List.getElem?_set_self (by omega)
  refine ⟨R.adv, R.sub, by simpa using hl, fun k d e => ?_, fun k ds e => ?_, fun k m ds es a e1 e2 e3 e4 => ?_, fun k e => ?_, fun k j e => ?_, fun p hp => ?_, fun k ds es e => ?_, fun k j ds es fs gs' e1 e2 => ?_⟩
  · rcases gs e with ⟨rfl, q, e⟩ | ⟨z, e⟩
    · obtain ⟨u, rfl, h⟩ := hsh d e.symm
      exact ⟨u, si q, h⟩
    · obtain ⟨u, h1, h2⟩ := R.sh k d e
      exact ⟨u, (sg z).trans h1, h2⟩
  · rcases gs e with ⟨rfl, q, e⟩ | ⟨z, e⟩
    · obtain ⟨a, xs, rfl, h1, h2, h3, h4, _⟩ := hown ds e.symm
      exact ⟨a, xs, si q, h1, h2, h3, h4⟩
    · obtain ⟨a, xs, h1, h2⟩ := R.own k ds e
      exact ⟨a, xs, (sg z).trans h1, h2⟩
  · rcases gs e1 with ⟨rfl, q, e1⟩ | ⟨z1, e1⟩
    · rcases gs e2 with ⟨rfl, q2, e2⟩ | ⟨z2, e2⟩
      · rfl
      · obtain ⟨b, xs, rfl, _, _, _, _, h, _⟩ := hown ds e1.symm
        rw [si q] at e3
        cases e3
        rw [sg z2] at e4
        exact absurd e4 (h m es e2)
    · rcases gs e2 with ⟨rfl, q2, e2⟩ | ⟨z2, e2'⟩
      · obtain ⟨b, xs, rfl, _, _, _, _, h, _⟩ := hown es e2.symm
        rw [si q2] at e4
        cases e4
        rw [sg z1] at e3
        exact absurd e3 (h k ds (by assumption))
      · rw [sg z1] at e3
        rw [sg z2] at e4
        exact R.dis k m ds es a (by assumption) e2' e3 e4
  · rcases gs e with ⟨rfl, q, e⟩ | ⟨z, e⟩
    · exact absurd e.symm hpot
    · obtain ⟨a, h1, h2⟩ := R.pot k e
      exact ⟨a, (sg z).trans h1, h2⟩
  · rcases gs e with ⟨rfl, q, e⟩ | ⟨z, e⟩
    · obtain ⟨hj, ds, u, h1, rfl, h2⟩ := hal j e.symm
      refine ⟨⟨ds, ?_⟩, ?_⟩
      · rw [List.getElem?_set_ne (Ne.symm hj)]
        exact h1
      · rw [si q, sg hj]
        exact h2.symm
    · have hj : j ≠ i := fun z2 => okSet_al ok (z2 ▸ e)
      obtain ⟨⟨ds, h1⟩, h2⟩ := R.al k j e
      refine ⟨⟨ds, ?_⟩, ?_⟩
      · rw [List.getElem?_set_ne (Ne.symm hj)]
        exact h1
      · rw [sg z, sg hj]
        exact h2
  · obtain ⟨⟨k, h1, h2⟩, h3⟩ := R.pp p hp
    have z : k ≠ i := fun z => okSet_pot ok (z ▸ h1)
    refine ⟨⟨k, ?_, (sg z).trans h2⟩, h3⟩
    rw [List.getElem?_set_ne (Ne.symm z)]
    exact h1
  · rcases gs e with ⟨rfl, q, e⟩ | ⟨z, e⟩
    · exact absurd e.symm (ho2 ds es)
    · have e5 := e
      clear e
      obtain ⟨t, b, c, xs', ys', O⟩ := R.o2 k ds es e5
      refine ⟨t, b, c, xs', ys', (sg z).trans O.st, O.tw, O.ab, O.ba, O.bb, O.wa, O.wb, O.ha, O.hb, O.ra, O.rb, fun m fs em => ?_⟩
      rcases gs em with ⟨rfl, q, em⟩ | ⟨zm, em⟩
      · obtain ⟨a, xs, rfl, _, _, _, _, _, h⟩ := hown fs em.symm
        obtain ⟨n1, n2⟩ := h k ds es t b c e5 O.st O.tw
        rw [si q]
        exact ⟨fun y => n1 (by cases y; rfl), fun y => n2 (by cases y; rfl)⟩
      · rw [sg zm]
        exact O.no m fs em
  · rcases gs e1 with ⟨rfl, q, e1⟩ | ⟨z1, e1⟩
    · exact absurd e1.symm (ho2 ds es)
    · rcases gs e2 with ⟨rfl, q, e2⟩ | ⟨z2, e2⟩
      · exact absurd e2.symm (ho2 fs gs')
      · exact R.o1 k j ds es fs gs' e1 e2
theorem Rel.putD (R : Rel F W H σ ρ) {i : Nat} (ok : okSet ρ i = true) {v : V} {d : PyData} (h : Rp F.K W v d) : Rel F W H (σ.set i (some v)) (ρ.set i (.sh d)) :=
  R.put ok (fun d' e => by cases e; exact ⟨v, rfl, h⟩) (fun ds e => nomatch e) (fun j e => nomatch e) (fun e => nomatch e) (fun _ _ e => nomatch e)
theorem Rel.putN (R : Rel F W H σ ρ) {i : Nat} (ok : okSet ρ i = true) (v : Option V) : Rel F W H (σ.set i v) (ρ.set i .un) :=
  R.put ok (fun d' e => nomatch e) (fun ds e => nomatch e) (fun j e => nomatch e) (fun e => nomatch e) (fun _ _ e => nomatch e)
/-- a value is stored -/
theorem Rel.store {Ws Hs : Hp} {i : Nat} {v : V} {dv : DV} {Q : List Sl → Prop} (R0 : Rel F Ws Hs σ ρ) (A : Adv F.P Ws Hs W H) (R : Rel F W H σ ρ) (h : VR F σ ρ Hs W H v dv) (q : dStore i dv ρ Q) :
    ∃ ρ', Rel F W H (σ.set i (some v)) ρ' ∧ Q ρ' := by
  obtain ⟨ok, q⟩ := q
  cases dv with
  | k d => exact ⟨_, R.putD ok h, q⟩
  | r j ds =>
    refine ⟨ρ.set i (.al j), R.put (sl := .al j) ok (fun d' e => nomatch e) (fun ds e => nomatch e) (fun k e => ?_) (fun e => nomatch e) (fun _ _ e => nomatch e), q.2⟩
    cases e
    exact ⟨q.1, ds, v, h.1, rfl, h.2⟩
  | f ds =>
    refine ⟨ρ.set i (.own ds), R.put (sl := .own ds) ok (fun d' e => nomatch e) (fun es e => ?_) (fun k e => nomatch e) (fun e => nomatch e) (fun _ _ e => nomatch e), q⟩
    cases e
    obtain ⟨a, xs, rfl, h1, h2, h3, h4⟩ := h
    refine ⟨a, xs, rfl, R0.adv.back h1, h2, h3, h4, fun k es e z => ?_, fun k fs gs t b c e e2 e3 => ?_⟩
    · obtain ⟨b, ys, k1, _, _, k4, _⟩ := R0.own k es e
      rw [z] at k1
      cases k1
      rw [h1] at k4
      cases k4
    · obtain ⟨t0, b0, c0, xs0, ys0, O0⟩ := R0.o2 k fs gs e
      have et := O0.st
      rw [e2] at et
      cases et
      have ew := A.ex _ _ O0.tw
      rw [e3] at ew
      cases ew
      exact ⟨(fun z => by have := O0.ha; rw [← z, h1] at this; cases this), (fun z => by have := O0.hb; rw [← z, h1] at this; cases this)⟩
end

/-! ### statements -/
structure DEnds where
  nx : List Sl → Prop
  rt : List Sl → DV → Prop
  bk : List Sl → Prop := fun _ => False
  ct : List Sl → Prop := fun _ => False
abbrev DS := DEnds → List Sl → Prop
@[reducible] def DV.ret : DV → DV
  | .k d => .k d
  | .r _ ds => .f ds
  | .f ds => .f ds
/-- what a def hands back -/
def VRet (K : PySem.W.Frag) (B W H : Hp) (v : V) : DV → Prop
  | .k d => Rp K W v d
  | .f ds => ∃ a xs, v = .ref a ∧ B a = none ∧ W a = none ∧ H a = some (.lst xs) ∧ RpA K W xs ds
  | .r _ _ => False
structure Link (F : Fx) (W : Hp) (DD : DEnds) (D : Ends) : Prop where
  nx : ∀ W' H' σ' ρ', Same W W' → Rel F W' H' σ' ρ' → DD.nx ρ' → D.nx σ' H'
  rt : ∀ v dv W' H' σ' ρ', Same W W' → Rel F W' H' σ' ρ' → VRet F.K F.B W' H' v dv → DD.rt ρ' dv → D.rt v H'
  bk : ∀ W' H' σ' ρ', Same W W' → Rel F W' H' σ' ρ' → DD.bk ρ' → D.bk σ' H'
  ct : ∀ W' H' σ' ρ', Same W W' → Rel F W' H' σ' ρ' → DD.ct ρ' → D.ct σ' H'
theorem Link.from {F : Fx} {W W1 : Hp} {DD : DEnds} {D : Ends} (e : Same W W1) (l : Link F W DD D) : Link F W1 DD D :=
  ⟨fun W' H' σ' ρ' s => l.nx W' H' σ' ρ' (e.trans s), fun v dv W' H' σ' ρ' s => l.rt v dv W' H' σ' ρ' (e.trans s), fun W' H' σ' ρ' s => l.bk W' H' σ' ρ' (e.trans s), fun W' H' σ' ρ' s => l.ct W' H' σ' ρ' (e.trans s)⟩
def SemS (K : PySem.W.Frag) (ts : TS) (t : DS) : Prop := ∀ (F : Fx), F.K = K → ∀ DD ρ, t DD ρ → ∀ W H σ, Rel F W H σ ρ → ∀ D : Ends, Link F W DD D → ts D σ H
structure DSt (X : Cx) (st : Stmt) (t : DS) : Prop where
  ex : ∃ ts, PS X st ts ∧ SemS X.K ts t
structure DSs (X : Cx) (st : List Stmt) (t : DS) : Prop where
  ex : ∃ ts, PSs X st ts ∧ SemS X.K ts t
theorem VR.ret {F : Fx} {W H Ws Hs : Hp} {σ : L2.St} {ρ : List Sl} {v : V} {dv : DV} (R0 : Rel F Ws Hs σ ρ) (R : Rel F W H σ ρ) (h : VR F σ ρ Hs W H v dv) : VRet F.K F.B W H v dv.ret := by
  cases dv with
  | k d => exact h
  | r i ds =>
    obtain ⟨a, xs, h1, h2, h3, h4, h5⟩ := R.own i ds h.1
    have e := h.2
    rw [h1] at e
    cases e
    exact ⟨a, xs, rfl, h2, h3, h4, h5⟩
  | f ds =>
    obtain ⟨a, xs, rfl, h1, h2, h3, h4⟩ := h
    exact ⟨a, xs, rfl, R0.adv.back h1, h2, h3, h4⟩
theorem Rel.pots {F : Fx} {W H : Hp} {σ : L2.St} {ρ : List Sl} (R : Rel F W H σ ρ) : ∀ p, F.P p → W p = none ∧ Pot F.K W H p := fun p h => (R.pp p h).2.2

section
variable {X : Cx} {st : Stmt} {rest : List Stmt} {pos : Pos} {e : Expr} {t : DT}
def dNext : DS := fun DD ρ => DD.nx ρ
def dSeq (t u : DS) : DS := fun DD ρ => t { DD with nx := fun ρ' => u DD ρ' } ρ
theorem ds_nil : DSs X [] dNext := ⟨_, pss_nil, fun F hF DD ρ h W H σ R D l => l.nx W H σ ρ (Same.refl W) R h⟩
theorem ds_cons {t u : DS} : DSt X st t → DSs X rest u → DSs X (st :: rest) (dSeq t u)
  | ⟨_, p, s⟩, ⟨_, p2, s2⟩ => ⟨_, pss_cons p p2, fun F hF DD ρ h W H σ R D l => s F hF _ ρ h W H σ R _
      ⟨fun W' H' σ' ρ' sm R' q => s2 F hF DD ρ' q W' H' σ' R' D (l.from sm), l.rt, l.bk, l.ct⟩⟩
theorem ds_one {t : DS} : DSt X st t → DSs X [st] t
  | ⟨_, p, s⟩ => ⟨_, pss_one p, s⟩
theorem ds_pass : DSt X (.Pass pos) dNext := ⟨_, ps_pass, fun F hF DD ρ h W H σ R D l => l.nx W H σ ρ (Same.refl W) R h⟩
theorem ds_break : DSt X (.Break pos) (fun DD ρ => DD.bk ρ) := ⟨_, ps_break, fun F hF DD ρ h W H σ R D l => l.bk W H σ ρ (Same.refl W) R h⟩
theorem ds_cont : DSt X (.Continue pos) (fun DD ρ => DD.ct ρ) := ⟨_, ps_continue, fun F hF DD ρ h W H σ R D l => l.ct W H σ ρ (Same.refl W) R h⟩
theorem ds_doc {x j pos'} : DSt X (.Expr (.Constant (.str x) j pos) pos') dNext := ⟨_, ps_doc, fun F hF DD ρ h W H σ R D l => l.nx W H σ ρ (Same.refl W) R h⟩
def dDrop (t : DT) : DS := fun DD ρ => t ρ fun _ => DD.nx ρ
theorem ds_expr (h : DE X e t) (hs : swapsWith e none pos.line X.env = pure false := by rfl) : DSt X (.Expr e pos) (dDrop t) := by
  obtain ⟨_, p, s⟩ := h
  exact ⟨_, ps_expr p hs, fun F hF DD ρ h W H σ R D l => s F hF ρ _ h W H σ R _ fun v dv W1 H1 A1 R1 o q => l.nx W1 H1 σ ρ A1.ex R1 q⟩
def dRet (t : DT) : DS := fun DD ρ => t ρ fun dv => DD.rt ρ dv.ret
theorem ds_ret (h : DE X e t) : DSt X (.Return (some e) pos) (dRet t) := by
  obtain ⟨_, p, s⟩ := h
  exact ⟨_, ps_ret p, fun F hF DD ρ h W H σ R D l => s F hF ρ _ h W H σ R _ fun v dv W1 H1 A1 R1 o q => l.rt v dv.ret W1 H1 σ ρ A1.ex R1 (o.ret R R1) q⟩
theorem ds_retN : DSt X (.Return none pos) (fun DD ρ => DD.rt ρ (.k .none)) :=
  ⟨_, ps_retN, fun F hF DD ρ h W H σ R D l => l.rt .non (.k .none) W H σ ρ (Same.refl W) R Rp.non h⟩
def dSet (i : Nat) (t : DT) : DS := fun DD ρ => t ρ fun dv => dStore i dv ρ DD.nx
theorem ds_set {i : Nat} {x : Str} {pos' : Pos} (hN : X.N.Nodup) (h : DE X e t) (hi : X.N[i]? = some x := by rfl) (hx : Loc X.env.scope x := by first | exact .inl rfl | exact .inr rfl)
    (hs : swapsWith e (some (.Name x pos')) pos.line X.env = pure false := by rfl)
    (hf : X.fn x = true ∨ X.env.scope.names.lookup x = some .local := by first | exact .inl rfl | exact .inr rfl) : DSt X (.Assign [.Name x pos'] e pos) (dSet i t) := by
  obtain ⟨_, p, s⟩ := h
  refine ⟨_, ps_set hN hi hx p hs hf, fun F hF DD ρ h W H σ R D l => s F hF ρ _ h W H σ R _ fun v dv W1 H1 A1 R1 o q => ?_⟩
  obtain ⟨ρ', R', q⟩ := R.store A1 R1 o q
  exact l.nx W1 H1 _ ρ' A1.ex R' q
def dIfS (c : DB) (t u : DS) : DS := fun DD ρ => c ρ fun b => if b = true then t DD ρ else u DD ρ
theorem ds_if {c : Expr} {a b : List Stmt} {tc : DB} {t u : DS} : DTs X c tc → DSs X a t → DSs X b u → DSt X (.If c a b pos) (dIfS tc t u)
  | ⟨_, p, s⟩, ⟨_, p1, s1⟩, ⟨_, p2, s2⟩ => ⟨_, ps_if p p1 p2, fun F hF DD ρ h W H σ R D l => s F hF ρ _ h W H σ R _ fun c W1 H1 A1 R1 q => by
    cases c with
    | true => exact iteT (s1 F hF DD ρ q W1 H1 σ R1 D (l.from A1.ex))
    | false => exact iteF (s2 F hF DD ρ q W1 H1 σ R1 D (l.from A1.ex))⟩

/-! ### targets -/
abbrev DGt := PyData → List Sl → (List Sl → Prop) → Prop
/-- is: the slots that it stores into -/
def SemG (K : PySem.W.Frag) (g : TG) (t : DGt) (is : List Nat) : Prop := ∀ (F : Fx), F.K = K → ∀ d ρ QG, t d ρ QG → ∀ W H σ v, Rel F W H σ ρ → Rp F.K W v d → ∀ Q : L2.St → Hp → Prop,
  (∀ σ' ρ', Rel F W H σ' ρ' → (∀ vs : List Nat, (∀ i ∈ is, i ∈ vs) → wipe σ' vs = wipe σ vs) → QG ρ' → Q σ' H) → g v σ H Q
structure DG (X : Cx) (tg : Expr) (t : DGt) (is : List Nat) : Prop where
  ex : ∃ g, PG X tg g ∧ SemG X.K g t is
abbrev DGts := List PyData → List Sl → (List Sl → Prop) → Prop
def SemGs (K : PySem.W.Frag) (g : TGs) (t : DGts) (is : List Nat) : Prop := ∀ (F : Fx), F.K = K → ∀ ds ρ QG, t ds ρ QG → ∀ W H σ vs, Rel F W H σ ρ → RpA F.K W vs ds → ∀ Q : L2.St → Hp → Prop,
  (∀ σ' ρ', Rel F W H σ' ρ' → (∀ vs : List Nat, (∀ i ∈ is, i ∈ vs) → wipe σ' vs = wipe σ vs) → QG ρ' → Q σ' H) → g vs σ H Q
structure DGs (X : Cx) (tgs : List Expr) (t : DGts) (is : List Nat) : Prop where
  ex : ∃ g, PGs X tgs g ∧ SemGs X.K g t is
theorem wipe_get {σ : L2.St} {k : Nat} : ∀ {vs : List Nat}, (wipe σ vs)[k]? = if k ∈ vs then (σ[k]?).map (fun _ => none) else σ[k]?
  | [] => by simp [wipe]
  | v :: vs => by
    unfold wipe
    by_cases z : v = k
    · subst z
      rw [if_pos (List.mem_cons_self), List.getElem?_set]
      simp only [if_true]
      rw [wipe_length]
      by_cases q : v < σ.length
      · rw [if_pos q, List.getElem?_eq_getElem q]
        rfl
      · rw [if_neg q, List.getElem?_eq_none (by omega)]
        rfl
    · rw [List.getElem?_set_ne z, wipe_get]
      have : (k ∈ v :: vs) ↔ k ∈ vs := by simp [Ne.symm z]
      by_cases q : k ∈ vs
      · rw [if_pos q, if_pos (this.mpr q)]
      · rw [if_neg q, if_neg (fun h => q (this.mp h))]
theorem wipe_set {σ : L2.St} {i : Nat} {x : Option V} {vs : List Nat} (h : i ∈ vs) : wipe (σ.set i x) vs = wipe σ vs := by
  refine List.ext_getElem? fun k => ?_
  rw [wipe_get, wipe_get]
  by_cases q : k ∈ vs
  · rw [if_pos q, if_pos q, List.getElem?_set]
    by_cases z : i = k
    · subst z
      by_cases y : i < σ.length
      · rw [if_pos rfl, if_pos y, List.getElem?_eq_getElem y]
        rfl
      · rw [if_pos rfl, if_neg y, List.getElem?_eq_none (by omega)]
    · rw [if_neg z]
  · rw [if_neg q, if_neg q, List.getElem?_set_ne]
    rintro rfl
    exact q h
def gdName (i : Nat) : DGt := fun d ρ Q => okSet ρ i = true ∧ Q (ρ.set i (.sh d))
theorem dg_name {i : Nat} {x : Str} (hN : X.N.Nodup) (hi : X.N[i]? = some x := by rfl) (hx : Loc X.env.scope x := by first | exact .inl rfl | exact .inr rfl)
    (hf : X.fn x = true ∨ X.env.scope.names.lookup x = some .local := by first | exact .inl rfl | exact .inr rfl) : DG X (.Name x pos) (gdName i) [i] :=
  ⟨_, pg_name hN hi hx hf, fun F hF d ρ QG h W H σ v R r Q q => q _ _ (R.putD h.1 r) (fun vs hv => wipe_set (hv i (by simp))) h.2⟩
def gdNil : DGts := fun ds ρ Q => match ds with
  | [] => Q ρ
  | _ => False
def gdCons (t : DGt) (u : DGts) : DGts := fun ds ρ Q => match ds with
  | d :: r => t d ρ fun ρ' => u r ρ' Q
  | [] => False
theorem dgs_nil : DGs X [] gdNil [] := ⟨_, pgs_nil, fun F hF ds ρ QG h W H σ vs R r Q q => by
  unfold gdNil at h
  split at h
  · cases r
    exact ⟨rfl, q σ ρ R (fun _ _ => rfl) h⟩
  · exact h.elim⟩
theorem dgs_cons {tg : Expr} {tgs : List Expr} {t : DGt} {u : DGts} {is js : List Nat} (h1 : DG X tg t is) (h2 : DGs X tgs u js)
    (hs : (assignEach (tg :: tgs) X.env).map (·.2) = assign tg X.env :: (assignEach tgs X.env).map (·.2) := by rfl) : DGs X (tg :: tgs) (gdCons t u) (is ++ js) := by
  obtain ⟨_, p1, s1⟩ := h1
  obtain ⟨_, p2, s2⟩ := h2
  refine ⟨_, pgs_cons p1 p2 hs, fun F hF ds ρ QG h W H σ vs R r Q q => ?_⟩
  cases r with
  | nil => exact h.elim
  | cons r1 r2 =>
    refine ⟨_, _, rfl, s1 F hF _ ρ _ h W H σ _ R r1 _ fun σ1 ρ1 R1 w1 h1 => ?_⟩
    refine s2 F hF _ ρ1 QG h1 W H σ1 _ R1 r2 Q fun σ2 ρ2 R2 w2 h2 => q σ2 ρ2 R2 (fun vs hv => ?_) h2
    rw [w2 vs fun i hi => hv i (List.mem_append_right _ hi), w1 vs fun i hi => hv i (List.mem_append_left _ hi)]
def gdTup (n : Nat) (t : DGts) : DGt := fun d ρ Q => match d with
  | .tuple ds => ds.length = n ∧ t ds ρ Q
  | _ => False
theorem dg_tup {tgs : List Expr} {k : Nat} {t : DGts} {is : List Nat} {n : Nat} (hc : X.calm = true) (h : DGs X tgs t is)
    (hn : (assignEach tgs X.env).length = n := by rfl) (hst : (assignEach tgs X.env).findIdx? (·.1) = none := by rfl) : DG X (.Tuple tgs k pos) (gdTup n t) is := by
  obtain ⟨_, p1, s1⟩ := h
  refine ⟨_, pg_tup hc p1 hn hst, fun F hF d ρ QG h W H σ v R r Q q => ?_⟩
  unfold gdTup at h
  split at h
  · cases r with
    | tup h1 h2 =>
      refine ⟨_, _, rfl, ?_, by rw [h2.length]; exact h.1, s1 F hF _ ρ QG h.2 W H σ _ R h2 Q q⟩
      rw [← hF]
      exact sameT R.sub h1
  · exact h.elim
/-- a, b = e -/
def dAsg (t : DT) (tg : DGt) : DS := fun DD ρ => t ρ fun dv => ∃ d, dv.toD = some d ∧ tg d ρ DD.nx
theorem ds_asg {tg : Expr} {g : DGt} {is : List Nat} (h : DE X e t) (hg : DG X tg g is) (hs : swapsWithSole [tg] e pos.line X.env = pure false := by rfl) (hw : swappedStores [tg] e X.env = pure none := by rfl)
    (h1 : (assignEach [tg] X.env).map (·.2) = [assign tg X.env] := by rfl) : DSt X (.Assign [tg] e pos) (dAsg t g) := by
  obtain ⟨_, p, s⟩ := h
  obtain ⟨_, p2, s2⟩ := hg
  refine ⟨_, ps_asg p p2 hs hw h1, fun F hF DD ρ h W H σ R D l => s F hF ρ _ h W H σ R _ fun v dv W1 H1 A1 R1 o q => ?_⟩
  obtain ⟨d, e, q⟩ := q
  obtain ⟨W2, A2, R2, r2, sm⟩ := VR.known R A1 R1 o e
  exact s2 F hF d ρ _ q W2 H1 σ v R2 r2 _ fun σ' ρ' R' _ q => l.nx W2 H1 σ' ρ' A2.ex R' q
/-! a, b = e1, e2 -/
def dPar (i j : Nat) (ta tb : DT) : DS := fun DD ρ => ta ρ fun x => tb ρ fun y => (∃ d, y.toD = some d) ∧ dStore i x ρ fun ρ' => dStore j y ρ' DD.nx
theorem ds_par {i j : Nat} {a b : Expr} {ta tb : DT} {st : Stmt} (ha : DE X a ta) (hb : DE X b tb)
    (hp : ∀ t1 t2, PE X a t1 → PE X b t2 → PS X st (tPar i j (tCons t1 (tCons t2 tNil)))) : DSt X st (dPar i j ta tb) := by
  obtain ⟨_, p1, s1⟩ := ha
  obtain ⟨_, p2, s2⟩ := hb
  refine ⟨_, hp _ _ p1 p2, fun F hF DD ρ h W H σ R D l => s1 F hF ρ _ h W H σ R _ fun v dv W1 H1 A1 R1 o1 q => s2 F hF ρ _ q W1 H1 σ R1 _ fun u du W2 H2 A2 R2 o2 q => ?_⟩
  obtain ⟨⟨d, hd⟩, q⟩ := q
  obtain ⟨ρ1, Ra, qa⟩ := R.store A1 R1 o1 q
  have Rb := Ra.step A2 R2.sub fun p z => (R2.pp p z).2.2.2
  have o3 : VR F (σ.set i (some v)) ρ1 H1 W2 H2 u du := by
    cases du with
    | k d => exact o2
    | r j ds => cases hd
    | f ds => exact o2
  obtain ⟨ρ2, Rc, qc⟩ := Ra.store A2 Rb o3 qa
  exact ⟨v, u, rfl, l.nx W2 H2 _ ρ2 (A1.ex.trans A2.ex) Rc qc⟩
/-! ### xs.append(e), xs[i] = e of an own list -/
theorem Rel.mut {F : Fx} {W H : Hp} {σ : L2.St} {ρ : List Sl} (R : Rel F W H σ ρ) {i : Nat} {ds es : List PyData} {a : Addr} {xs : List V} (hi : ρ[i]? = some (Sl.own ds)) (ha : σ[i]? = some (some (V.ref a)))
    (hx : RpA F.K W xs es) : Rel F W (upd H a (.lst xs)) σ (ρ.set i (.own es)) := by
  obtain ⟨a', xs', h1, h2, h3, h4, h5⟩ := R.own i ds hi
  rw [ha] at h1
  cases h1
  have il : i < ρ.length := (List.getElem?_eq_some_iff.mp hi).1
  have gs : ∀ {k : Nat} {x : Sl}, (ρ.set i (.own es))[k]? = some x → (k = i ∧ x = Sl.own es) ∨ (k ≠ i ∧ ρ[k]? = some x) := fun {k x} e => by
    by_cases z : k = i
    · subst z
      rw [List.getElem?_set_self il] at e
      exact .inl ⟨rfl, (Option.some.inj e).symm⟩
    · rw [List.getElem?_set_ne (Ne.symm z)] at e
      exact .inr ⟨z, e⟩
  have pa : ∀ p, F.P p → p ≠ a := fun p hp z => (R.pp p hp).2.1 (z ▸ h2)
  refine ⟨⟨R.adv.ex, fun p o e n => ?_, fun p e => ?_, fun p o e => ?_⟩, same_updH R.sub h3, by rw [List.length_set]; exact R.len, fun k d e => ?_, fun k fs e => ?_, fun k m fs gs' b e1 e2 => ?_, fun k e => ?_, fun k j e => ?_, fun p hp => ?_, fun k fs gs' e => ?_, fun k j fs gs' hs is e1 e2 => ?_⟩
  · rw [upd_ne (fun z => by rw [z, h2] at e; cases e)]
    exact R.adv.gw p o e n
  · by_cases z : p = a
    · subst z; rw [upd_same]; simp
    · rw [upd_ne z]; exact R.adv.th p e
  · exact R.adv.nw p o e
  · rcases gs e with ⟨_, e⟩ | ⟨_, e⟩
    · cases e
    · exact R.sh k d e
  · rcases gs e with ⟨rfl, e'⟩ | ⟨z, e'⟩
    · cases e'
      exact ⟨a, xs, ha, h2, h3, upd_same, hx⟩
    · obtain ⟨b, ys, k1, k2, k3, k4, k5⟩ := R.own k fs e'
      refine ⟨b, ys, k1, k2, k3, ?_, k5⟩
      have nb : b ≠ a := fun q => by
        subst q
        exact z (R.dis k i fs ds b e' hi k1 ha)
      rw [upd_ne nb]
      exact k4
  · have back : ∀ {k : Nat} {fs : List PyData}, (ρ.set i (.own es))[k]? = some (Sl.own fs) → ∃ fs', ρ[k]? = some (Sl.own fs') := fun {k fs} e => by
      rcases gs e with ⟨rfl, _⟩ | ⟨_, e⟩
      · exact ⟨ds, hi⟩
      · exact ⟨fs, e⟩
    obtain ⟨f1, e1⟩ := back e1
    obtain ⟨f2, e2⟩ := back e2
    exact R.dis k m f1 f2 b e1 e2
  · rcases gs e with ⟨_, e⟩ | ⟨_, e⟩
    · cases e
    · exact R.pot k e
  · rcases gs e with ⟨_, e⟩ | ⟨_, e⟩
    · cases e
    · obtain ⟨⟨fs, k1⟩, k2⟩ := R.al k j e
      refine ⟨?_, k2⟩
      by_cases z : j = i
      · subst z
        exact ⟨es, List.getElem?_set_self il⟩
      · exact ⟨fs, by rw [List.getElem?_set_ne (Ne.symm z)]; exact k1⟩
  · obtain ⟨⟨k, k1, k2⟩, k3, k4, k5⟩ := R.pp p hp
    refine ⟨⟨k, ?_, k2⟩, k3, k4, k5.mono (Same.refl W) fun o q => ?_⟩
    · rw [List.getElem?_set_ne (fun z => by rw [← z, hi] at k1; cases k1)]
      exact k1
    · rw [upd_ne (pa p hp)]
      exact q
  · rcases gs e with ⟨_, e⟩ | ⟨z, e⟩
    · cases e
    · obtain ⟨t, b, c, us, ws, O⟩ := R.o2 k fs gs' e
      have nn := O.no i ds hi
      rw [ha] at nn
      have n1 : b ≠ a := fun z => nn.1 (by rw [z])
      have n2 : c ≠ a := fun z => nn.2 (by rw [z])
      refine ⟨t, b, c, us, ws, O.st, O.tw, O.ab, O.ba, O.bb, O.wa, O.wb, by rw [upd_ne n1]; exact O.ha, by rw [upd_ne n2]; exact O.hb, O.ra, O.rb, fun m hs em => ?_⟩
      rcases gs em with ⟨rfl, _⟩ | ⟨_, em⟩
      · exact O.no m ds hi
      · exact O.no m hs em
  · rcases gs e1 with ⟨_, e1⟩ | ⟨_, e1⟩
    · cases e1
    · rcases gs e2 with ⟨_, e2⟩ | ⟨_, e2⟩
      · cases e2
      · exact R.o1 k j _ _ _ _ e1 e2
def dApp (t te : DT) : DS := fun DD ρ => t ρ fun x => match x with
  | .r i ds => te ρ fun y => ∃ d, y.toD = some d ∧ ds.length < 100000 ∧ DD.nx (ρ.set i (.own (ds ++ [d])))
  | .f ds => te ρ fun y => ∃ d, y.toD = some d ∧ ds.length < 100000 ∧ DD.nx ρ
  | .k _ => False
theorem ds_app {o e : Expr} {to te : DT} {pos apos cpos : Pos} (ho : DE X o to) (he : DE X e te) (hx : ∀ t1 t2, PE X o t1 → PE X e t2 → PS X st (tDrop (tBM X.K "list" rAppend t1 (tCons t2 tNil)))) : DSt X st (dApp to te) := by
  obtain ⟨_, p1, s1⟩ := ho
  obtain ⟨_, p2, s2⟩ := he
  refine ⟨_, hx _ _ p1 p2, fun F hF DD ρ h W H σ R D l => s1 F hF ρ _ h W H σ R _ fun v dv W1 H1 A1 R1 o q => ?_⟩
  (try dsimp only at q)
  split at q
  · rename_i i ds
    obtain ⟨a, xs, k1, k2, k3, k4, k5⟩ := R1.own i ds o.1
    have e1 := o.2
    rw [k1] at e1
    cases e1
    refine ⟨.inl ⟨rfl, xs, .inl (.inl k4)⟩, s2 F hF ρ _ q W1 H1 σ R1 _ fun v2 dv2 W2 H2 A2 R2 o2 q2 => ?_⟩
    obtain ⟨d, e2, hl, q2⟩ := q2
    obtain ⟨W3, A3, R3, r3, sm⟩ := VR.known R1 A2 R2 o2 e2
    obtain ⟨b, ys, m1, m2, m3, m4, m5⟩ := R3.own i ds o.1
    rw [k1] at m1
    cases m1
    have n := m5.length
    refine ⟨a, ys, v2, rfl, rfl, m4, Nat.lt_of_lt_of_le (by omega : ys.length < 100000) (by decide), ?_⟩
    exact l.nx W3 _ σ _ (A1.ex.trans A3.ex) (R3.mut o.1 k1 (m5.append (.cons r3 .nil))) q2
  · rename_i ds
    obtain ⟨a, xs, rfl, k1, k2, k3, k4⟩ := o
    have nP : ¬ F.P a := fun z => (R.pp a z).2.2.2.some k1
    refine ⟨.inl ⟨rfl, xs, .inl (.inl k3)⟩, s2 F hF ρ _ q W1 H1 σ R1 _ fun v2 dv2 W2 H2 A2 R2 o2 q2 => ?_⟩
    obtain ⟨d, e2, hl, q2⟩ := q2
    have n := k4.length
    have h2 := A2.gw a _ k3 nP
    refine ⟨a, xs, v2, rfl, rfl, h2, Nat.lt_of_lt_of_le (by omega : xs.length < 100000) (by decide), ?_⟩
    have w2 : W2 a = none := by
      cases z : W2 a with
      | none => rfl
      | some o =>
        rcases A2.nw a o z with y | y
        · rw [k2] at y; cases y
        · rw [k3] at y; cases y
    refine l.nx W2 _ σ _ (A1.ex.trans A2.ex) ⟨⟨R2.adv.ex, fun p o e n => ?_, fun p e => ?_, R2.adv.nw⟩, same_updH R2.sub w2, R2.len, R2.sh, fun k es e => ?_, R2.dis, R2.pot, R2.al, fun p hp => ?_, fun k fs gs e => ?_, R2.o1⟩ q2
    · rw [upd_ne (fun z => by rw [z, R.adv.back k1] at e; cases e)]
      exact R2.adv.gw p o e n
    · by_cases z : p = a
      · subst z; rw [upd_same]; simp
      · rw [upd_ne z]; exact R2.adv.th p e
    · obtain ⟨b, ys, m1, m2, m3, m4, m5⟩ := R2.own k es e
      refine ⟨b, ys, m1, m2, m3, ?_, m5⟩
      obtain ⟨b', zs, n1, _, _, n4, _⟩ := R.own k es e
      rw [m1] at n1
      cases n1
      rw [upd_ne (fun z => by rw [z, k1] at n4; cases n4)]
      exact m4
    · obtain ⟨m1, m2, m3, m4⟩ := R2.pp p hp
      refine ⟨m1, m2, m3, m4.mono (Same.refl W2) fun o q => ?_⟩
      rw [upd_ne (show p ≠ a from fun z => nP (by rw [← z]; exact hp))]
      exact q
    · obtain ⟨t, b, c, us, ws, O⟩ := R2.o2 k fs gs e
      obtain ⟨t0, b0, c0, us0, ws0, O0⟩ := R.o2 k fs gs e
      have et := O0.st
      rw [O.st] at et
      cases et
      have ew := (A1.ex.trans A2.ex) _ _ O0.tw
      rw [O.tw] at ew
      cases ew
      have n1 : b ≠ a := fun z => by have := O0.ha; rw [z, k1] at this; cases this
      have n2 : c ≠ a := fun z => by have := O0.hb; rw [z, k1] at this; cases this
      exact ⟨t, b, c, us, ws, O.st, O.tw, O.ab, O.ba, O.bb, O.wa, O.wb, by rw [upd_ne n1]; exact O.ha, by rw [upd_ne n2]; exact O.hb, O.ra, O.rb, O.no⟩
  · exact q.elim
end
end DL

namespace DL
open PySem PySem.Spec PyProof.Rows L2

/-! ### what is walked -/
structure Walks (F : Fx) (W1 : Hp) (keep : List (Addr × HO)) (J : It) (ds : List PyData) : Prop where
  go : ∀ (i : Nat) d W' H', Same W1 W' → Same W' H' → (∀ p ∈ keep, H' p.1 = some p.2) → ds[i]? = some d → J.go i H' ∧ ∀ x H'', J.yld i H' x H'' → ∃ W'', Adv (fun _ => False) W' H' W'' H'' ∧ Same W'' H'' ∧ Rp F.K W'' x d
  stop : ∀ (i : Nat) W' H', Same W1 W' → Same W' H' → (∀ p ∈ keep, H' p.1 = some p.2) → ds.length ≤ i → J.stop i H'
/-- own: an own slot's list is walked -/
abbrev DIt := List Sl → (List PyData → Bool → Prop) → Prop
def SemI (K : PySem.W.Frag) (wi : TI) (t : DIt) : Prop := ∀ (F : Fx), F.K = K → ∀ ρ QI, t ρ QI → ∀ W H σ, Rel F W H σ ρ → ∀ R : It → Hp → Prop,
  (∀ J ds own keep W' H', Adv F.P W H W' H' → Rel F W' H' σ ρ → Walks F W' keep J ds → (own = false → keep = []) → (∀ p ∈ keep, H' p.1 = some p.2 ∧ F.B p.1 = none) → QI ds own → R J H') → wi σ H R
structure DI (X : Cx) (tg iter : Expr) (t : DIt) : Prop where
  ex : ∃ wi, PI X tg iter wi ∧ SemI X.K wi t
def canonI (K : PySem.W.Frag) (t : DIt) : TI := fun σ H R => ∃ F ρ QI W, Fx.K F = K ∧ t ρ QI ∧ Rel F W H σ ρ ∧
  ∀ J ds own keep W' H', Adv F.P W H W' H' → Rel F W' H' σ ρ → Walks F W' keep J ds → (own = false → keep = []) → (∀ p ∈ keep, H' p.1 = some p.2 ∧ F.B p.1 = none) → QI ds own → R J H'

section
variable {F : Fx} {W2 : Hp} {keep : List (Addr × HO)}
theorem walks_list {a : Addr} {xs : List V} {ds : List PyData} (h : ∀ W' H', Same W2 W' → Same W' H' → (∀ p ∈ keep, H' p.1 = some p.2) → H' a = some (.lst xs)) (r : RpA F.K W2 xs ds) : Walks F W2 keep (Itl F.K a) ds where
  go := fun i d W' H' s1 s2 k e => by
    have hs : SqL F.K H' a xs := .inl (.inl (h W' H' s1 s2 k))
    obtain ⟨v, h1, h2⟩ := r.get e
    refine ⟨⟨xs, v, hs, h1⟩, fun x H'' y => ?_⟩
    obtain ⟨rfl, y⟩ := y
    have e2 := y xs hs
    rw [h1] at e2
    cases e2
    exact ⟨W', Adv.refl, s2, h2.mono s1⟩
  stop := fun i W' H' s1 s2 k e => ⟨xs, .inl (.inl (h W' H' s1 s2 k)), by rw [r.length]; exact e⟩
theorem walks_tup {a : Addr} {xs : List V} {ds : List PyData} (h : SqT F.K W2 a xs) (r : RpA F.K W2 xs ds) : Walks F W2 [] (Itt F.K a) ds where
  go := fun i d W' H' s1 s2 k e => by
    have hs : SqT F.K H' a xs := sameT (s1.trans s2) h
    obtain ⟨v, h1, h2⟩ := r.get e
    refine ⟨⟨xs, v, hs, h1⟩, fun x H'' y => ?_⟩
    obtain ⟨rfl, y⟩ := y
    have e2 := y xs hs
    rw [h1] at e2
    cases e2
    exact ⟨W', Adv.refl, s2, h2.mono s1⟩
  stop := fun i W' H' s1 s2 k e => ⟨xs, sameT (s1.trans s2) h, by rw [r.length]; exact e⟩
def rangeD (lo hi : Int) : List PyData := (List.range (hi - lo).toNat).map fun (i : Nat) => .int (lo + i)
theorem walks_range {lo hi : Int} : Walks F W2 [] (Itr lo (hi - lo).toNat) (rangeD lo hi) where
  go := fun i d W' H' s1 s2 k e => by
    unfold rangeD at e
    rw [List.getElem?_map] at e
    have hi : i < (hi - lo).toNat := by
      cases q : (List.range (hi - lo).toNat)[i]? with
      | none => rw [q] at e; cases e
      | some j => simpa using (List.getElem?_eq_some_iff.mp q).1
    rw [List.getElem?_range hi] at e
    cases e
    refine ⟨hi, fun x H'' y => ?_⟩
    obtain ⟨rfl, rfl⟩ := y
    exact ⟨W', Adv.refl, s2, .int _⟩
  stop := fun i W' H' s1 s2 k e => by
    unfold rangeD at e
    rw [List.length_map, List.length_range] at e
    exact e
def zipD (xs ys : List PyData) : List PyData := (xs.zip ys).map fun p => .tuple [p.1, p.2]
theorem zipD_get {xs ys : List PyData} {i : Nat} {d : PyData} (h : (zipD xs ys)[i]? = some d) : ∃ x y, xs[i]? = some x ∧ ys[i]? = some y ∧ d = .tuple [x, y] := by
  unfold zipD at h
  rw [List.getElem?_map] at h
  cases q : (xs.zip ys)[i]? with
  | none => rw [q] at h; cases h
  | some p =>
    rw [q] at h
    cases h
    have z := List.getElem?_zip_eq_some.mp q
    exact ⟨p.1, p.2, z.1, z.2, rfl⟩
theorem new_pair {W' H' : Hp} {T : Addr} {x y : V} {d e : PyData} (hn : H' T = none) (s2 : Same W' H') (h1 : Rp F.K W' x d) (h2 : Rp F.K W' y e) :
    ∃ W'', Adv (fun _ => False) W' H' W'' (upd H' T (.tup [x, y])) ∧ Same W'' (upd H' T (.tup [x, y])) ∧ Rp F.K W'' (.ref T) (.tuple [d, e]) := by
  have A : Adv (fun _ => False) W' H' (upd W' T (.tup [x, y])) (upd H' T (.tup [x, y])) := Adv.new hn s2
  exact ⟨_, A, same_upd2 s2, .tup (.inl (.inl upd_same)) (.cons (h1.mono A.ex) (.cons (h2.mono A.ex) .nil))⟩
theorem walks_zipL {a b : Addr} {xs ys : List V} {ds es : List PyData} (h : ∀ W' H', Same W2 W' → Same W' H' → (∀ p ∈ keep, H' p.1 = some p.2) → H' a = some (.lst xs) ∧ H' b = some (.lst ys)) (r : RpA F.K W2 xs ds) (r2 : RpA F.K W2 ys es) :
    Walks F W2 keep (Itz F.K a b) (zipD ds es) where
  go := fun i d W' H' s1 s2 k e => by
    obtain ⟨k1, k2⟩ := h W' H' s1 s2 k
    have q1 : SqL F.K H' a xs := .inl (.inl k1)
    have q2 : SqL F.K H' b ys := .inl (.inl k2)
    obtain ⟨dx, dy, e1, e2, rfl⟩ := zipD_get e
    obtain ⟨u, u1, u2⟩ := r.get e1
    obtain ⟨v, v1, v2⟩ := r2.get e2
    refine ⟨⟨xs, ys, u, v, q1, q2, u1, v1⟩, fun x H'' y => ?_⟩
    obtain ⟨T, x1, x2, rfl, hn, rfl, y1, y2⟩ := y
    have w1 := y1 xs q1
    have w2 := y2 ys q2
    rw [u1] at w1
    rw [v1] at w2
    cases w1
    cases w2
    exact new_pair hn s2 (u2.mono s1) (v2.mono s1)
  stop := fun i W' H' s1 s2 k e => by
    obtain ⟨k1, k2⟩ := h W' H' s1 s2 k
    refine ⟨xs, ys, .inl (.inl k1), .inl (.inl k2), ?_⟩
    have n1 := r.length
    have n2 := r2.length
    unfold zipD at e
    rw [List.length_map, List.length_zip] at e
    omega
theorem walks_zipT {a b : Addr} {xs ys : List V} {ds es : List PyData} (h : SqT F.K W2 a xs) (h2 : SqT F.K W2 b ys) (r : RpA F.K W2 xs ds) (r2 : RpA F.K W2 ys es) :
    Walks F W2 [] (RZ.ItzT F.K a b) (zipD ds es) where
  go := fun i d W' H' s1 s2 k e => by
    have q1 := sameT (s1.trans s2) h
    have q2 := sameT (s1.trans s2) h2
    obtain ⟨dx, dy, e1, e2, rfl⟩ := zipD_get e
    obtain ⟨u, u1, u2⟩ := r.get e1
    obtain ⟨v, v1, v2⟩ := r2.get e2
    refine ⟨⟨xs, ys, u, v, q1, q2, u1, v1⟩, fun x H'' y => ?_⟩
    obtain ⟨T, x1, x2, rfl, hn, rfl, y1, y2⟩ := y
    have w1 := y1 xs q1
    have w2 := y2 ys q2
    rw [u1] at w1
    rw [v1] at w2
    cases w1
    cases w2
    exact new_pair hn s2 (u2.mono s1) (v2.mono s1)
  stop := fun i W' H' s1 s2 k e => by
    refine ⟨xs, ys, sameT (s1.trans s2) h, sameT (s1.trans s2) h2, ?_⟩
    have n1 := r.length
    have n2 := r2.length
    unfold zipD at e
    rw [List.length_map, List.length_zip] at e
    omega
def enumD (xs : List PyData) : List PyData := xs.zipIdx.map fun p => .tuple [.int (p.2 : Nat), p.1]
theorem walks_enum {a : Addr} {xs : List V} {ds : List PyData} (h : ∀ W' H', Same W2 W' → Same W' H' → (∀ p ∈ keep, H' p.1 = some p.2) → H' a = some (.lst xs)) (r : RpA F.K W2 xs ds) : Walks F W2 keep (Ite F.K a) (enumD ds) where
  go := fun i d W' H' s1 s2 k e => by
    have hs : SqL F.K H' a xs := .inl (.inl (h W' H' s1 s2 k))
    unfold enumD at e
    rw [List.getElem?_map, List.getElem?_zipIdx] at e
    cases q : ds[i]? with
    | none => rw [q] at e; cases e
    | some d0 =>
      rw [q] at e
      cases e
      obtain ⟨v, h1, h2⟩ := r.get q
      refine ⟨⟨xs, v, hs, h1⟩, fun x H'' y => ?_⟩
      obtain ⟨T, x1, rfl, hn, rfl, y⟩ := y
      have e2 := y xs hs
      rw [h1] at e2
      cases e2
      have z := new_pair (F := F) hn s2 (.int (i : Nat)) (h2.mono s1)
      simpa using z
  stop := fun i W' H' s1 s2 k e => by
    refine ⟨xs, .inl (.inl (h W' H' s1 s2 k)), ?_⟩
    rw [r.length]
    unfold enumD at e
    simpa using e
end
/-- a list that is walked: where it stands -/
structure LW (F : Fx) (W H : Hp) (v : V) (ds : List PyData) (own : Bool) (a : Addr) (xs : List V) (keep : List (Addr × HO)) : Prop where
  e : v = .ref a
  r : RpA F.K W xs ds
  here : H a = some (.lst xs)
  k0 : own = false → keep = []
  k1 : ∀ p ∈ keep, H p.1 = some p.2 ∧ F.B p.1 = none
  at' : ∀ W' H', Same W W' → Same W' H' → (∀ p ∈ keep, H' p.1 = some p.2) → H' a = some (.lst xs)
section
variable {F : Fx} {W H Ws Hs : Hp} {σ : L2.St} {ρ : List Sl} {v : V}
def listOwn : DV → Option (List PyData × Bool)
  | .k (.list ds) => some (ds, false)
  | .r _ ds => some (ds, true)
  | .f ds => some (ds, false)
  | _ => none
theorem lw_of {dv : DV} {ds : List PyData} {own : Bool} (R : Rel F W H σ ρ) (o : Opd F σ ρ W v dv.norm) (e : listOwn dv = some (ds, own)) : ∃ a xs keep, LW F W H v ds own a xs keep := by
  cases dv with
  | k d =>
    cases d with
    | list es =>
      obtain ⟨rfl, rfl⟩ := Prod.mk.inj (Option.some.inj e)
      cases o with
      | lst h1 h2 => exact ⟨_, _, [], ⟨rfl, h2, R.sub _ _ h1, (fun _ => rfl), (fun p hp => nomatch hp), (fun W' H' s1 s2 _ => s2 _ _ (s1 _ _ h1))⟩⟩
    | _ => cases e
  | r i es =>
    obtain ⟨rfl, rfl⟩ := Prod.mk.inj (Option.some.inj e)
    obtain ⟨a, xs, h1, h2, h3, h4, h5⟩ := R.own i es o.1
    have q := o.2
    rw [h1] at q
    cases q
    exact ⟨a, xs, [(a, .lst xs)], ⟨rfl, h5, h4, (fun z => nomatch z), (fun p hp => by rw [List.mem_singleton.mp hp]; exact ⟨h4, h2⟩), (fun W' H' s1 s2 k => k (a, .lst xs) (List.mem_singleton.mpr rfl))⟩⟩
  | f es =>
    obtain ⟨rfl, rfl⟩ := Prod.mk.inj (Option.some.inj e)
    have o' : Rp F.K W v (.list es) := o
    cases o' with
    | lst h1 h2 => exact ⟨_, _, [], ⟨rfl, h2, R.sub _ _ h1, (fun _ => rfl), (fun p hp => nomatch hp), (fun W' H' s1 s2 _ => s2 _ _ (s1 _ _ h1))⟩⟩
end
section
variable {X : Cx} {tg e e2 : Expr} {t t2 : DT} {pos p : Pos}
def diList (t : DT) : DIt := fun ρ Q => t ρ fun x => ∃ ds own, listOwn x = some (ds, own) ∧ Q ds own
theorem di_list (h : DE X e t) : DI X tg e (diList t) := by
  obtain ⟨_, p, s⟩ := h
  refine ⟨_, pi_list p, fun F hF ρ QI h W H σ R R' q => s.use hF h R fun v dv W1 H1 A1 R1 o q1 => ?_⟩
  obtain ⟨dw, rfl, ds, own, e, q1⟩ := q1
  obtain ⟨a, xs, keep, L⟩ := lw_of R1 o e
  refine ⟨a, L.e, ⟨xs, .inl (.inl L.here)⟩, ?_⟩
  rw [← hF]
  exact q _ ds own keep W1 H1 A1 R1 (walks_list L.at' L.r) L.k0 L.k1 q1
def diTup (t : DT) : DIt := fun ρ Q => t ρ fun x => match x with
  | .k (.tuple ds) => Q ds false
  | _ => False
theorem di_tup (h : DE X e t) : DI X tg e (diTup t) := by
  obtain ⟨_, p, s⟩ := h
  refine ⟨_, pi_tup p, fun F hF ρ QI h W H σ R R' q => s F hF ρ _ h W H σ R _ fun v dv W1 H1 A1 R1 o q1 => ?_⟩
  (try dsimp only at q1)
  split at q1
  · rename_i ds
    have o' : Rp F.K W1 v (.tuple ds) := o
    cases o' with
    | tup h1 h2 =>
      rw [← hF]
      exact ⟨_, rfl, ⟨_, sameT R1.sub h1⟩, q _ ds false [] W1 H1 A1 R1 (walks_tup h1 h2) (fun _ => rfl) (fun p hp => nomatch hp) q1⟩
  · exact q1.elim
def diRange1 (ta : DTA) : DIt := fun ρ Q => ta ρ fun xs => match OpdData xs with
  | [.int n] => -1000000 ≤ n ∧ n ≤ 1000000 ∧ Q (rangeD 0 n) false
  | _ => False
def diRange2 (ta : DTA) : DIt := fun ρ Q => ta ρ fun xs => match OpdData xs with
  | [.int m, .int n] => -1000000 ≤ m ∧ m ≤ 1000000 ∧ -1000000 ≤ n ∧ n ≤ 1000000 ∧ Q (rangeD m n) false
  | _ => False
theorem di_range1 {a : Expr} {ta : DTA} (hg : Gl X "range") (hm : X.mg "range" = none) (h : DAs X [a] ta) (hs : starEach [a] X.env = [(false, eval a X.env)] := by rfl) : DI X tg (.Call (.Name "range" p) [a] [] pos) (diRange1 ta) := by
  obtain ⟨_, p1, s1⟩ := h
  refine ⟨_, pi_range1 hg hm p1 hs, fun F hF ρ QI h W H σ R R' q => s1 F hF ρ _ h W H σ R _ fun vs ds W1 H1 A1 R1 o q1 => ?_⟩
  (try dsimp only at q1)
  split at q1
  · rename_i n e
    obtain ⟨v, dv, rfl, rfl, o, e⟩ := opdA1 o e
    obtain rfl := o.int R1 e
    refine ⟨n, rfl, by omega, by omega, ?_⟩
    have w : Walks F W1 [] (Itr 0 n.toNat) (rangeD 0 n) := by
      have z := walks_range (F := F) (W2 := W1) (lo := 0) (hi := n)
      rw [Int.sub_zero] at z
      exact z
    exact q _ _ false [] W1 H1 A1 R1 w (fun _ => rfl) (fun p hp => nomatch hp) q1.2.2
  · exact q1.elim
theorem di_range2 {a b : Expr} {ta : DTA} (hg : Gl X "range") (hm : X.mg "range" = none) (h : DAs X [a, b] ta) (hs : starEach [a, b] X.env = [(false, eval a X.env), (false, eval b X.env)] := by rfl)
    (hs2 : starEach [b] X.env = [(false, eval b X.env)] := by rfl) : DI X tg (.Call (.Name "range" p) [a, b] [] pos) (diRange2 ta) := by
  obtain ⟨_, p1, s1⟩ := h
  refine ⟨_, pi_range2 hg hm p1 hs hs2, fun F hF ρ QI h W H σ R R' q => s1 F hF ρ _ h W H σ R _ fun vs ds W1 H1 A1 R1 o q1 => ?_⟩
  (try dsimp only at q1)
  split at q1
  · rename_i m n e
    obtain ⟨v, v', dv, dv', rfl, rfl, o1, o2, e1, e2⟩ := opdA2 o e
    obtain rfl := o1.int R1 e1
    obtain rfl := o2.int R1 e2
    refine ⟨m, n, rfl, ⟨by omega, by omega, by omega, by omega⟩, ?_⟩
    exact q _ _ false [] W1 H1 A1 R1 walks_range (fun _ => rfl) (fun p hp => nomatch hp) q1.2.2.2.2
  · exact q1.elim
/-- two sequences at once: both lists (none of them an own slot's), or both tuples -/
def zipOf : List DV → Option (List PyData)
  | [.k (.list ds), .k (.list es)] => some (zipD ds es)
  | [.k (.tuple ds), .k (.tuple es)] => some (zipD ds es)
  | _ => none
def diZip (ta : DTA) : DIt := fun ρ Q => ta ρ fun xs => ∃ ds, zipOf xs = some ds ∧ Q ds false
theorem di_zip {a b : Expr} {ta : DTA} {elts : List Expr} {kk : Nat} {tpos : Pos} (hg : Gl X "zip") (hm : X.mg "zip" = none) (h : DAs X [a, b] ta)
    (hs : starEach [a, b] X.env = (false, eval a X.env) :: starEach [b] X.env := by rfl) (hpl : (backTo pos (starEach [b] X.env)).any (·.1) = false := by rfl) : DI X (.Tuple elts kk tpos) (.Call (.Name "zip" p) [a, b] [] pos) (diZip ta) := by
  obtain ⟨_, p1, s1⟩ := h
  refine ⟨_, RZ.pi_zipA hg hm p1 hs hpl, fun F hF ρ QI h W H σ R R' q => s1 F hF ρ _ h W H σ R _ fun vs ds W1 H1 A1 R1 o q1 => ?_⟩
  obtain ⟨ds', e, q1⟩ := q1
  rw [← hF]
  unfold zipOf at e
  split at e
  · cases e
    cases o with
    | cons o1 o =>
      cases o with
      | cons o2 o =>
        cases o
        have o1' : Rp F.K W1 _ (.list _) := o1
        have o2' : Rp F.K W1 _ (.list _) := o2
        cases o1' with
        | lst h1 h2 =>
          cases o2' with
          | lst h3 h4 =>
            refine ⟨_, _, _, _, rfl, .inl ⟨.inl (.inl (R1.sub _ _ h1)), .inl (.inl (R1.sub _ _ h3)), ?_⟩⟩
            exact q _ _ false [] W1 H1 A1 R1 (walks_zipL (fun W' H' s1 s2 _ => ⟨s2 _ _ (s1 _ _ h1), s2 _ _ (s1 _ _ h3)⟩) h2 h4) (fun _ => rfl) (fun p hp => nomatch hp) q1
  · cases e
    cases o with
    | cons o1 o =>
      cases o with
      | cons o2 o =>
        cases o
        have o1' : Rp F.K W1 _ (.tuple _) := o1
        have o2' : Rp F.K W1 _ (.tuple _) := o2
        cases o1' with
        | tup h1 h2 =>
          cases o2' with
          | tup h3 h4 =>
            refine ⟨_, _, _, _, rfl, .inr ⟨sameT R1.sub h1, sameT R1.sub h3, ?_⟩⟩
            exact q _ _ false [] W1 H1 A1 R1 (walks_zipT h1 h3 h2 h4) (fun _ => rfl) (fun p hp => nomatch hp) q1
  · cases e
theorem DI.canon {t : DIt} (h : DI X tg e t) : PI X tg e (canonI X.K t) := by
  obtain ⟨wi, p, s⟩ := h
  exact ⟨fun pins st σ H R I ⟨F, ρ, QI, W, hF, ht, Rl, q⟩ => p.run pins st σ H R I (s F hF ρ QI ht W H σ Rl R q)⟩

/-! ### for -/
def forW (tg : DGt) (tb : DS) (DD : DEnds) : List PyData → List Sl → Prop
  | [], ρ => DD.nx ρ
  | d :: r, ρ => tg d ρ fun ρ' => tb { DD with nx := forW tg tb DD r, ct := forW tg tb DD r, bk := DD.nx } ρ'
def dFor (ti : DIt) (tg : DGt) (tb : DS) : DS := fun DD ρ => ti ρ fun ds own => own = false ∧ forW tg tb DD ds ρ
theorem ds_for {iter : Expr} {body : List Stmt} {ti : DIt} {g : DGt} {is : List Nat} {tb : DS} (hp : PassesOwn (model X.prog X.w) X.A X.env X.xe) (hc : X.calm = true)
    (hi : DI X tg iter ti) (hg : DG X tg g is) (hb : DSs X body tb) (hs : ∀ x, foldedSetIterable iter X.env x = pure x := by intro _; rfl) : DSt X (.For tg iter body [] pos) (dFor ti g tb) := by
  obtain ⟨_, p1, s1⟩ := hi
  obtain ⟨_, p2, s2⟩ := hg
  obtain ⟨_, p3, s3⟩ := hb
  refine ⟨_, ps_for hp hc p1 p2 p3 hs, fun F hF DD ρ h W H σ R D l => s1 F hF ρ _ h W H σ R _ fun J ds own keep W1 H1 A1 R1 wk k0 k1 q => ?_⟩
  obtain ⟨rfl, q⟩ := q
  obtain rfl := k0 rfl
  refine ⟨fun i m σ' H' => ∃ W' ρ', m = ds.length - i ∧ i ≤ ds.length ∧ Same W1 W' ∧ Rel F W' H' σ' ρ' ∧ forW g tb DD (ds.drop i) ρ', ⟨ds.length, W1, ρ, rfl, Nat.zero_le _, Same.refl W1, R1, q⟩, ?_⟩
  rintro i m σ' H' ⟨W', ρ', rfl, hi, sm, R', q'⟩
  by_cases hlt : i < ds.length
  · obtain ⟨g1, g2⟩ := wk.go i ds[i] W' H' sm R'.sub (fun p hp => nomatch hp) (List.getElem?_eq_getElem hlt)
    rw [List.drop_eq_getElem_cons hlt] at q'
    refine .inr ⟨g1, fun σ2 H2 => ∃ W2 ρ2, Same W1 W2 ∧ Rel F W2 H2 σ2 ρ2 ∧ forW g tb DD (ds.drop (i + 1)) ρ2, fun σ2 H2 ⟨W2, ρ2, sm2, R2, q2⟩ => ⟨ds.length - (i + 1), by omega, W2, ρ2, rfl, hlt, sm2, R2, q2⟩, fun x H2 y => ?_⟩
    obtain ⟨W2, A2, sub2, rx⟩ := g2 x H2 y
    have R2 := R'.step0 A2 sub2
    refine s2 F hF _ ρ' _ q' W2 H2 σ' x R2 rx _ fun σ3 ρ3 R3 _ q3 => ?_
    refine s3 F hF _ ρ3 q3 W2 H2 σ3 R3 _ ⟨fun W4 H4 σ4 ρ4 s4 R4 q4 => ?_, fun v dv W4 H4 σ4 ρ4 s4 => ?_, fun W4 H4 σ4 ρ4 s4 R4 q4 => ?_, fun W4 H4 σ4 ρ4 s4 R4 q4 => ?_⟩
    · exact ⟨W4, ρ4, sm.trans (A2.ex.trans s4), R4, q4⟩
    · exact l.rt v dv W4 H4 σ4 ρ4 (A1.ex.trans (sm.trans (A2.ex.trans s4)))
    · exact l.nx W4 H4 σ4 ρ4 (A1.ex.trans (sm.trans (A2.ex.trans s4))) R4 q4
    · exact ⟨W4, ρ4, sm.trans (A2.ex.trans s4), R4, q4⟩
  · have e : i = ds.length := by omega
    subst e
    rw [List.drop_length] at q'
    exact .inl ⟨wk.stop _ W' H' sm R'.sub (fun p hp => nomatch hp) (Nat.le_refl _), l.nx W' H' σ' ρ' (A1.ex.trans sm) R' q'⟩

/-! ### list comprehensions -/
def wipeS (ρ : List Sl) : List Nat → List Sl
  | [] => ρ
  | v :: vs => (wipeS ρ vs).set v .un
def okWipe (ρ : List Sl) : List Nat → Bool
  | [] => true
  | v :: vs => okWipe ρ vs && okSet (wipeS ρ vs) v
theorem Rel.wipe {F : Fx} {W H : Hp} {σ : L2.St} {ρ : List Sl} (R : Rel F W H σ ρ) : ∀ {vs : List Nat}, okWipe ρ vs = true → Rel F W H (wipe σ vs) (wipeS ρ vs)
  | [], _ => R
  | v :: vs, h => by
    unfold okWipe at h
    have h' := Bool.and_eq_true_iff.mp h
    exact (Rel.wipe R h'.1).putN h'.2 none
def lcW (tg : DGt) (tt : DB) (te : DT) (ρ : List Sl) : List PyData → List PyData → (List PyData → Prop) → Prop
  | [], acc, Q => Q acc
  | d :: r, acc, Q => tg d ρ fun ρ' => tt ρ' fun b => if b = true then te ρ' fun y => ∃ z, y.toD = some z ∧ lcW tg tt te ρ r (acc ++ [z]) Q else lcW tg tt te ρ r acc Q
def dLc (ti : DIt) (tg : DGt) (tt : DB) (te : DT) (vs : List Nat) : DT := fun ρ Q => ti ρ fun ds own => okWipe ρ vs = true ∧ ds.length ≤ 50000 ∧ lcW tg tt te (wipeS ρ vs) ds [] fun rs => Q (.f rs)
def canonG (K : PySem.W.Frag) (t : DGt) (is : List Nat) : TG := fun v σ H Q => ∃ F ρ QG W d, Fx.K F = K ∧ t d ρ QG ∧ Rel F W H σ ρ ∧ Rp F.K W v d ∧
  ∀ σ' ρ', Rel F W H σ' ρ' → (∀ vs : List Nat, (∀ i ∈ is, i ∈ vs) → L2.wipe σ' vs = L2.wipe σ vs) → QG ρ' → Q σ' H
theorem DG.canon {t : DGt} {is : List Nat} (h : DG X tg t is) : PG X tg (canonG X.K t is) := by
  obtain ⟨g, p, s⟩ := h
  exact ⟨fun pins st σ H v u Q I r ⟨F, ρ, QG, W, d, hF, ht, R, rd, q⟩ => p.run pins st σ H v u Q I r (s F hF d ρ QG ht W H σ v R rd Q q)⟩
theorem wipe_wipe {σ : L2.St} {vs : List Nat} : L2.wipe (L2.wipe σ vs) vs = L2.wipe σ vs := by
  refine List.ext_getElem? fun k => ?_
  rw [wipe_get, wipe_get]
  by_cases q : k ∈ vs
  · rw [if_pos q, if_pos q]
    cases σ[k]? <;> rfl
  · rw [if_neg q]
theorem sem_lc {K : PySem.W.Frag} {wi : TI} {g : TG} {tt : TT} {te : TE} {ti : DIt} {tg : DGt} {is vs : List Nat} {dt : DB} {de : DT} (s1 : SemI K wi ti) (s2 : SemG K g tg is) (s3 : SemT K tt dt) (s4 : SemE K te de) (hv : ∀ i ∈ is, i ∈ vs) :
    SemE K (tLc wi g tt te vs) (dLc ti tg dt de vs) := fun F hF ρ QD h W H σ R Q p => by
  refine s1 F hF ρ _ h W H σ R _ fun J ds own keep W1 H1 A1 R1 wk k0 k1 q => fun D hD => ?_
  obtain ⟨ok, hl, q⟩ := q
  have Rw := R1.wipe ok
  have wD : W1 D = none := R1.sub.free hD
  have nPD : ¬ F.P D := fun z => (R1.pp D z).2.2.2.some hD
  have kp : ∀ p ∈ keep, ¬ F.P p.1 := fun p hp => R1.nP (k1 p hp).2
  refine ⟨fun i m H' => ∃ W' acc ads, m = ds.length - i ∧ i ≤ ds.length ∧ Adv F.P W1 H1 W' H' ∧ Same W' H' ∧ (∀ p, F.P p → Pot F.K W' H' p) ∧ H' D = some (.lst acc) ∧ W' D = none ∧ RpA F.K W' acc ads ∧ acc.length ≤ i ∧
    lcW tg dt de (wipeS ρ vs) (ds.drop i) ads (fun rs => QD (.f rs)), ⟨ds.length, W1, [], [], rfl, Nat.zero_le _, Adv.newF hD, same_updH R1.sub wD, fun p z => ?_, upd_same, wD, .nil, Nat.le_refl _, q⟩, ?_⟩
  · refine (R1.pp p z).2.2.2.mono (Same.refl W1) fun o e => ?_
    rw [upd_ne (show p ≠ D from fun z2 => nPD (by rw [← z2]; exact z))]
    exact e
  rintro i m H' ⟨W', acc, ads, rfl, hi, A', sub', pots', hacc, wD', racc, hal, q'⟩
  have keepH : ∀ p ∈ keep, H' p.1 = some p.2 := fun p hp => A'.gw p.1 p.2 (k1 p hp).1 (kp p hp)
  have R' : Rel F W' H' (L2.wipe σ vs) (wipeS ρ vs) := Rw.step A' sub' pots'
  by_cases hlt : i < ds.length
  · obtain ⟨g1, g2⟩ := wk.go i ds[i] W' H' A'.ex sub' keepH (List.getElem?_eq_getElem hlt)
    rw [List.drop_eq_getElem_cons hlt] at q'
    refine .inr ⟨g1, fun H2 => ∃ W2 acc2 ads2, Adv F.P W1 H1 W2 H2 ∧ Same W2 H2 ∧ (∀ p, F.P p → Pot F.K W2 H2 p) ∧ H2 D = some (.lst acc2) ∧ W2 D = none ∧ RpA F.K W2 acc2 ads2 ∧ acc2.length ≤ i + 1 ∧
        lcW tg dt de (wipeS ρ vs) (ds.drop (i + 1)) ads2 (fun rs => QD (.f rs)),
      fun H2 ⟨W2, acc2, ads2, e1, e2, e3, e4, e5, e6, e7, e8⟩ => ⟨ds.length - (i + 1), by omega, W2, acc2, ads2, rfl, hlt, e1, e2, e3, e4, e5, e6, e7, e8⟩, fun x H2 y => ?_⟩
    obtain ⟨W2, A2, sub2, rx⟩ := g2 x H2 y
    have R2 := R'.step0 A2 sub2
    refine s2 F hF _ _ _ q' W2 H2 _ x R2 rx _ fun σ3 ρ3 R3 w3 q3 => ⟨?_, ?_⟩
    · rw [w3 vs hv]
      exact wipe_wipe
    refine s3 F hF ρ3 _ q3 W2 H2 σ3 R3 _ fun b W3 H3 A3 R4 q4 => ?_
    have A23 : Adv F.P W' H' W3 H3 := (A2.mono fun _ z => z.elim).trans A3
    have D3 : H3 D = some (.lst acc) := A23.gw D _ hacc nPD
    have wD3 : ∀ {W4 H4}, Adv F.P W' H' W4 H4 → W4 D = none := fun {W4 H4} A => by
      cases z : W4 D with
      | none => rfl
      | some o =>
        rcases A.nw D o z with y | y
        · rw [wD'] at y; cases y
        · rw [hacc] at y; cases y
    cases b with
    | false =>
      refine iteF ?_
      exact ⟨W3, acc, ads, A'.trans A23, R4.sub, fun p z => (R4.pp p z).2.2.2, D3, wD3 A23, racc.mono A23.ex, by omega, q4⟩
    | true =>
      refine iteT (s4 F hF ρ3 _ q4 W3 H3 σ3 R4 _ fun v dv W4 H4 A4 R5 o q5 => ?_)
      obtain ⟨z, e, q5⟩ := q5
      obtain ⟨W5, A5, R6, rz, sm⟩ := VR.known R4 A4 R5 o e
      have A35 := A23.trans A5
      have D4 : H4 D = some (.lst acc) := A5.gw D _ D3 nPD
      refine ⟨acc, D4, ?_, W5, acc ++ [v], ads ++ [z], ?_, same_updH R6.sub (wD3 A35), fun p hp => ?_, upd_same, wD3 A35, (racc.mono A35.ex).append (.cons rz .nil), ?_, q5⟩
      · exact Nat.lt_of_lt_of_le (by omega : acc.length < 100000) (by decide)
      · have A := A'.trans A35
        refine ⟨A.ex, fun p o e n => ?_, fun p e => ?_, A.nw⟩
        · rw [upd_ne (fun z => by rw [z, hD] at e; cases e)]
          exact A.gw p o e n
        · by_cases z : p = D
          · subst z; rw [upd_same]; simp
          · rw [upd_ne z]; exact A.th p e
      · refine (R6.pp p hp).2.2.2.mono (Same.refl W5) fun o q => ?_
        rw [upd_ne (show p ≠ D from fun z => nPD (by rw [← z]; exact hp))]
        exact q
      · rw [List.length_append, List.length_singleton]
        omega
  · have e : i = ds.length := by omega
    subst e
    rw [List.drop_length] at q'
    refine .inl ⟨wk.stop _ W' H' A'.ex sub' keepH (Nat.le_refl _), ?_⟩
    exact p (.ref D) (.f ads) W' H' (A1.trans A') (R1.step A' sub' pots') ⟨D, acc, rfl, A1.back hD, wD', hacc, racc⟩ q'
theorem de_lc {elt iter : Expr} {ifs : List Expr} {scope : Scope} {own : List (Str × Nat)} {ti : DIt} {g : DGt} {is : List Nat} {tt : DB} {te : DT} (hc : X.calm = true) (hN : X.N.Nodup) (hi : DI X tg iter ti) (ok : BlkOk X.N X.env.scope scope own)
    (hg : ∀ (s : Shared) (H : Hp) (C : Addr) (cl : List (Str × Addr)) (fp : List Addr), DG (X.blk s H scope (compEnvC scope cl C X.env) fp) tg g is)
    (ht : ∀ (s : Shared) (H : Hp) (C : Addr) (cl : List (Str × Addr)) (fp : List Addr), PTs (X.blk s H scope (compEnvC scope cl C X.env) fp) ifs (canonT X.K tt))
    (he : ∀ (s : Shared) (H : Hp) (C : Addr) (cl : List (Str × Addr)) (fp : List Addr), DE (X.blk s H scope (compEnvC scope cl C X.env) fp) elt te)
    (hv : ∀ i ∈ is, i ∈ own.map (·.2)) (hs : ∀ x, foldedSetIterable iter X.env x = pure x := by intro _; rfl) :
    DE X (.ListComp elt [⟨tg, iter, ifs, 0⟩] scope pos) (dLc ti g tt te (own.map (·.2))) :=
  ⟨_, pe_lc (wi := canonI X.K ti) (g := canonG X.K g is) (tt := canonT X.K tt) (te := canonE X.K te) hc hN hi.canon ok (fun s H C cl fp => (hg s H C cl fp).canon) ht (fun s H C cl fp => (he s H C cl fp).canon) hs,
    sem_lc (fun F hF ρ QI h W H σ R R' q => ⟨F, ρ, QI, W, hF, h, R, q⟩) (fun F hF d ρ QG h W H σ v R r Q q => ⟨F, ρ, QG, W, d, hF, h, R, r, q⟩) sem_canonT sem_canonE hv⟩
def dYes : DB := fun _ Q => Q true
theorem pts_yes {Y : Cx} {K : PySem.W.Frag} : PTs Y [] (canonT K dYes) := ⟨fun pins s σ H Q I ⟨F, ρ, QD, W, hF, h, R, q⟩ => pts_nil.run pins s σ H Q I (q true W H Adv.refl R h)⟩
theorem pts_if {Y : Cx} {c : Expr} {t : DB} (h : DTs Y c t) : PTs Y [c] (canonT Y.K t) := pts_one h.canon
/-- name = [..] on one line, the name a local -/
theorem ds_setLc {i : Nat} {y : Str} {py : Pos} {elt iter : Expr} {ifs : List Expr} {scope : Scope} {own : List (Str × Nat)} {spos : Pos} {ti : DIt} {g : DGt} {is : List Nat} {tt : DB} {te : DT}
    (hc : X.calm = true) (hN : X.N.Nodup) (hi : DI X tg iter ti) (ok : BlkOk X.N X.env.scope scope own)
    (hg : ∀ (s : Shared) (H : Hp) (C : Addr) (cl : List (Str × Addr)) (fp : List Addr), DG (X.blk s H scope (compEnvC scope cl C X.env) fp) tg g is)
    (ht : ∀ (s : Shared) (H : Hp) (C : Addr) (cl : List (Str × Addr)) (fp : List Addr), PTs (X.blk s H scope (compEnvC scope cl C X.env) fp) ifs (canonT X.K tt))
    (he : ∀ (s : Shared) (H : Hp) (C : Addr) (cl : List (Str × Addr)) (fp : List Addr), DE (X.blk s H scope (compEnvC scope cl C X.env) fp) elt te)
    (hv : ∀ i ∈ is, i ∈ own.map (·.2))
    (hy : X.N[i]? = some y := by rfl) (hyl : X.env.scope.names.lookup y = some .local := by rfl)
    (hsw : swapsWith (.ListComp elt [⟨tg, iter, ifs, 0⟩] scope pos) (some (.Name y py)) spos.line X.env = pure true) (hs : ∀ x, foldedSetIterable iter X.env x = pure x := by intro _; rfl) :
    DSt X (.Assign [.Name y py] (.ListComp elt [⟨tg, iter, ifs, 0⟩] scope pos) spos) (dSet i (dLc ti g tt te (own.map (·.2)))) := by
  refine ⟨_, ps_setLc (wi := canonI X.K ti) (g := canonG X.K g is) (tt := canonT X.K tt) (te := canonE X.K te) hc hN hy hyl hsw hi.canon ok (fun s H C cl fp => (hg s H C cl fp).canon) ht (fun s H C cl fp => (he s H C cl fp).canon) hs, ?_⟩
  have s := sem_lc (K := X.K) (wi := canonI X.K ti) (g := canonG X.K g is) (tt := canonT X.K tt) (te := canonE X.K te) (ti := ti) (tg := g) (is := is) (vs := own.map (·.2)) (dt := tt) (de := te) (fun F hF ρ QI h W H σ R R' q => ⟨F, ρ, QI, W, hF, h, R, q⟩) (fun F hF d ρ QG h W H σ v R r Q q => ⟨F, ρ, QG, W, d, hF, h, R, r, q⟩) sem_canonT sem_canonE hv
  refine fun F hF DD ρ h W H σ R D l => s F hF ρ _ h W H σ R _ fun v dv W1 H1 A1 R1 o q => ?_
  obtain ⟨ρ', R', q⟩ := R.store A1 R1 o q
  exact l.nx W1 H1 _ ρ' A1.ex R' q
end
end DL

namespace DL
open PySem PySem.Spec PyProof.Rows L2

/-! ### what a def does with data -/
abbrev DC := List PyData → (DV → Prop) → Prop
def toSp (K : PySem.W.Frag) (c : DC) : Sp := fun vs H Q _ => ∃ W xs QD, Same W H ∧ RpA K W vs xs ∧ c xs QD ∧
  ∀ v dv W' H', Adv (fun _ => False) W H W' H' → Same W' H' → VRet K H W' H' v dv → QD dv → Q v H'
/-- .. whose first argument is the pot -/
def toSpP (K : PySem.W.Frag) (c : DC) : Sp := fun vs H Q _ => ∃ a us W xs QD, vs = .ref a :: us ∧ Same W H ∧ W a = none ∧ Pot K W H a ∧ RpA K W us xs ∧ c xs QD ∧
  ∀ v dv W' H', Adv (fun p => p = a) W H W' H' → Same W' H' → W' a = none → Pot K W' H' a → VRet K H W' H' v dv → QD dv → Q v H'
def dCall (c : DC) (ta : DTA) : DT := fun ρ Q => ta ρ fun xs => ∃ ds, toDs xs = some ds ∧ c ds Q
theorem VRet.vr {F : Fx} {σ : L2.St} {ρ : List Sl} {H W' H' : Hp} {v : V} {dv : DV} (h : VRet F.K H W' H' v dv) : VR F σ ρ H W' H' v dv := by
  cases dv with
  | k d => exact h
  | r i ds => exact h.elim
  | f ds => exact h
section
variable {X : Cx} {CX : CXT} {k : Nat} {f : Addr} {fd : FuncData} {ps : List Str} {c : DC} {E : XK} {x : Str} {p pos : Pos} {e : Expr} {es : List Expr} {ta : DTA}
theorem de_call (G : FnG X.prog X.w X.K X.mg X.base CX k f fd ps (toSp X.K c)) (hg : X.A.guards = some []) (hr : Room k X.A)
    (hgl : Gl X x) (hm : X.mg x = some (.ref f)) (hk : PySem.W.keepIn X.K (.ref f) = true)
    (hb : Binds X.K fd ps []) (hx : Passes CX X E) (h : DAs X (e :: es) ta)
    (hdb : (x == ("__debug__" : Str)) = false := by decide)
    (he : starEach (e :: es) X.env = (false, eval e X.env) :: starEach es X.env := by rfl)
    (hpl : (backTo pos (starEach es X.env)).any (·.1) = false := by rfl) : DE X (.Call (.Name x p) (e :: es) [] pos) (dCall c ta) := by
  obtain ⟨_, p1, s1⟩ := h
  refine ⟨_, pe_callG G hg hr hgl hm hk hb .nil hx p1 hdb he hpl, fun F hF ρ QD h W H σ R Q p => s1 F hF ρ _ h W H σ R _ fun vs xs W1 H1 A1 R1 o q => ?_⟩
  obtain ⟨ds, e, q⟩ := q
  have r := o.keep e
  rw [hF] at r
  refine ⟨W1, ds, QD, R1.sub, by rw [List.append_nil]; exact r, q, fun v dv W2 H2 A2 sub hv hq => ?_⟩
  rw [← hF] at hv
  exact (p.from A1) v dv W2 H2 (A2.mono fun _ z => z.elim) (R1.step0 A2 sub) hv.vr hq
/-- f(pot, ..) -/
def dCallP (c : DC) (i : Nat) (ta : DTA) : DT := fun ρ Q => ρ[i]? = some .pot ∧ ta ρ fun xs => ∃ ds, toDs xs = some ds ∧ c ds Q
theorem de_callP {y : Str} {p2 : Pos} {i : Nat} (G : FnG X.prog X.w X.K X.mg X.base CX k f fd ps (toSpP X.K c)) (hg : X.A.guards = some []) (hr : Room k X.A)
    (hgl : Gl X x) (hm : X.mg x = some (.ref f)) (hk : PySem.W.keepIn X.K (.ref f) = true)
    (hb : Binds X.K fd ps []) (hx : Passes CX X E) (h : DAs X es ta) (hN : X.N[i]? = some y := by rfl)
    (hv : Vis X.env.scope y := by first | exact Or.inl rfl | exact Or.inr (Or.inl rfl) | exact Or.inr (Or.inr rfl))
    (hd : (y == ("__debug__" : Str)) = false := by decide) (hcd : (y == ("__classdict__" : Str)) = false := by decide)
    (hdb : (x == ("__debug__" : Str)) = false := by decide)
    (he : starEach (.Name y p2 :: es) X.env = (false, eval (.Name y p2) X.env) :: starEach es X.env := by rfl)
    (hpl : (backTo pos (starEach es X.env)).any (·.1) = false := by rfl) : DE X (.Call (.Name x p) (.Name y p2 :: es) [] pos) (dCallP c i ta) := by
  obtain ⟨_, p1, s1⟩ := h
  refine ⟨_, pe_callG G hg hr hgl hm hk hb .nil hx (pa_cons (pe_var hN hv hd hcd) p1 he) hdb he hpl, fun F hF ρ QD h W H σ R Q p => ?_⟩
  obtain ⟨hp, h⟩ := h
  obtain ⟨a, ha, hP⟩ := R.pot i hp
  refine ⟨.ref a, ha, s1 F hF ρ _ h W H σ R _ fun vs xs W1 H1 A1 R1 o q => ?_⟩
  obtain ⟨ds, e, q⟩ := q
  have r := o.keep e
  obtain ⟨_, _, w1, pt⟩ := R1.pp a hP
  rw [hF] at r pt
  refine ⟨a, vs ++ [], W1, ds, QD, rfl, R1.sub, w1, pt, by rw [List.append_nil]; exact r, q, fun v dv W2 H2 A2 sub w2 pt2 hv hq => ?_⟩
  rw [← hF] at hv pt2
  have A2' : Adv F.P W1 H1 W2 H2 := A2.mono fun q z => z ▸ hP
  refine (p.from A1) v dv W2 H2 A2' (R1.step A2' sub fun q hq => ?_) hv.vr hq
  by_cases z : q = a
  · rw [z]; exact pt2
  · exact (R1.pp q hq).2.2.2.mono A2.ex fun o e => A2.gw q o e z
end

/-! ### a def by its body -/
def startS (N : List Str) (xs : List PyData) : List Sl := xs.map Sl.sh ++ List.replicate (N.length - xs.length) .un
def startP (N : List Str) (xs : List PyData) : List Sl := .pot :: (xs.map Sl.sh ++ List.replicate (N.length - (xs.length + 1)) .un)
theorem start_get {N : List Str} {vs : List V} {i : Nat} {v : V} (h : vs[i]? = some v) : (start N vs)[i]? = some (some v) := by
  unfold L2.start
  have hi := (List.getElem?_eq_some_iff.mp h).1
  rw [List.getElem?_append_left (by simpa using hi), List.getElem?_map, h]
  rfl
theorem startS_get {n : Nat} {xs : List PyData} {i : Nat} {s : Sl} (h : (xs.map Sl.sh ++ List.replicate n Sl.un)[i]? = some s) : (∃ d, s = .sh d ∧ xs[i]? = some d) ∨ s = .un := by
  by_cases q : i < xs.length
  · rw [List.getElem?_append_left (by simpa using q), List.getElem?_map] at h
    cases z : xs[i]? with
    | none => rw [z] at h; cases h
    | some d => rw [z] at h; cases h; exact .inl ⟨d, rfl, rfl⟩
  · rw [List.getElem?_append_right (by simpa using q)] at h
    exact .inr (List.eq_of_mem_replicate (List.mem_of_getElem? h))
section
variable {P : Program} {w : World} {K : PySem.W.Frag} {mg : Str → Option Value} {base : Heap}
theorem rel_start {W H : Hp} {N : List Str} {vs : List V} {xs : List PyData} (sub : Same W H) (r : RpA K W vs xs) (hl : vs.length ≤ N.length) : Rel ⟨K, fun _ => False, W, H⟩ W H (start N vs) (startS N xs) := by
  have n := r.length
  refine ⟨Adv.refl, sub, ?_, fun i d e => ?_, fun i ds e => ?_, fun i j ds es a e => ?_, fun i e => ?_, fun i j e => ?_, fun p z => z.elim, fun i ds es e => ?_, fun i j ds es fs gs e => ?_⟩
  · unfold L2.start startS
    rw [List.length_append, List.length_append, List.length_map, List.length_map, List.length_replicate, List.length_replicate, n]
  · rcases startS_get e with ⟨d', h1, h2⟩ | h1
    · cases h1
      obtain ⟨v, k1, k2⟩ := r.get h2
      exact ⟨v, start_get k1, k2⟩
    · cases h1
  · rcases startS_get e with ⟨d', h1, h2⟩ | h1 <;> cases h1
  · rcases startS_get e with ⟨d', h1, h2⟩ | h1 <;> cases h1
  · rcases startS_get e with ⟨d', h1, h2⟩ | h1 <;> cases h1
  · rcases startS_get e with ⟨d', h1, h2⟩ | h1 <;> cases h1
  · rcases startS_get e with ⟨d', h1, h2⟩ | h1 <;> cases h1
  · rcases startS_get e with ⟨d', h1, h2⟩ | h1 <;> cases h1
end

/-! ### o[i] = e of an own list -/
def dSetIx (to ti te : DT) : DS := fun DD ρ => te ρ fun y => ∃ d, y.toD = some d ∧ to ρ fun x => ti ρ fun k => match x, k.data with
  | .r i ds, .int n => ∃ j, ixN ds.length n = some j ∧ DD.nx (ρ.set i (.own (ds.set j d)))
  | _, _ => False
theorem ds_setIx {X : Cx} {o i e : Expr} {to ti te : DT} {p2 pos : Pos} {st : Stmt} (he : DE X e te) (ho : DE X o to) (hi : DE X i ti)
    (hx : ∀ t1 t2 t3, PE X e t1 → PE X o t2 → PE X i t3 → PS X st (tAsg t1 (gSub t2 t3 rSetL))) : DSt X st (dSetIx to ti te) := by
  obtain ⟨_, p1, s1⟩ := he
  obtain ⟨_, p2, s2⟩ := ho
  obtain ⟨_, p3, s3⟩ := hi
  refine ⟨_, hx _ _ _ p1 p2 p3, fun F hF DD ρ h W H σ R D l => s1 F hF ρ _ h W H σ R _ fun v dv W1 H1 A1 R1 o1 q => ?_⟩
  obtain ⟨d, e1, q⟩ := q
  obtain ⟨W2, A2, R2, r2, sm⟩ := VR.known R A1 R1 o1 e1
  refine s2 F hF ρ _ q W2 H1 σ R2 _ fun u du W3 H3 A3 R3 o3 q3 => s3.use hF q3 R3 fun n dn W4 H4 A4 R4 o4 q4 => ?_
  obtain ⟨dw, rfl, q4⟩ := q4
  (try dsimp only at q4)
  split at q4
  · rename_i k i ds m e4
    obtain ⟨j, hj, q4⟩ := q4
    obtain ⟨a, xs, k1, k2, k3, k4, k5⟩ := R4.own i ds o3.1
    have z := o3.2
    rw [k1] at z
    cases z
    obtain rfl := o4.int R4 (by rw [DV.norm_data]; exact e4)
    refine ⟨a, xs, m, j, rfl, rfl, k4, by rw [k5.length]; exact hj, ?_⟩
    refine l.nx W4 _ σ _ (A2.ex.trans (A3.ex.trans A4.ex)) (R4.mut o3.1 k1 (k5.set (r2.mono (A3.ex.trans A4.ex)) j)) q4
  · exact q4.elim

/-! ### repr -/
mutual
def shownOk : PyData → Bool
  | .none => true
  | .bool _ => true
  | .int i => decide (i.natAbs.log2 < 1920)
  | .str _ => true
  | .list xs => shownOkA xs
  | .tuple xs => shownOkA xs
  | .dict kvs => kvs.isEmpty
def shownOkA : List PyData → Bool
  | [] => true
  | x :: r => shownOk x && shownOkA r
end
end DL

namespace DL
open PySem PySem.Spec PyProof.Rows L2

/-! ### repr -/
def strFine (x : Str) : Bool := PyData.strOk x && x.cps.toList.all (fun c => decide (c < 16 ^ 8))
mutual
/-- data whose repr is told here: no dict within (but the empty one alone, below), ints below 10 ^ 60 -/
def shOk : PyData → Bool
  | .none => true
  | .bool _ => true
  | .int i => decide (i.natAbs < 10 ^ 60)
  | .str x => strFine x
  | .list xs => shOkA xs
  | .tuple xs => shOkA xs
  | .dict _ => false
def shOkA : List PyData → Bool
  | [] => true
  | x :: r => shOk x && shOkA r
end
mutual
/-- a bound of the length -/
def szD : PyData → Nat
  | .none => 4
  | .bool _ => 5
  | .int _ => 61
  | .str x => 10 * x.length + 2
  | .list xs => 2 + szA xs
  | .tuple xs => 3 + szA xs
  | .dict _ => 2
def szA : List PyData → Nat
  | [] => 0
  | x :: r => szD x + 2 + szA r
end
theorem app_len (x y : Str) : (x ++ y).length = x.length + y.length := by
  show (x.cps ++ y.cps).size = _
  rw [Array.size_append]
  rfl
def sumL (ts : List Str) : Nat := (ts.map fun t => t.length + 2).sum
theorem textFrom_le : ∀ (ts : List Str) (k : Nat) (acc : Str), (textFrom k acc ts).length ≤ acc.length + sumL ts
  | [], k, acc => Nat.le_refl _
  | t :: ts, k, acc => by
    have h := textFrom_le ts (k + 1) (acc ++ (if k > 0 then ", " else "" : String) ++ t)
    refine Nat.le_trans h ?_
    rw [app_len, app_len]
    have e : ((if k > 0 then ", " else "" : String) : Str).length ≤ 2 := by split <;> decide
    unfold sumL
    rw [List.map_cons, List.sum_cons]
    omega
theorem join_le : ∀ ts : List Str, (Str.join ", " ts).length ≤ sumL ts
  | [] => Nat.le_refl _
  | [x] => by
    show x.length ≤ _
    unfold sumL
    simp
  | x :: y :: r => by
    have h := join_le (y :: r)
    show (x ++ ", " ++ Str.join ", " (y :: r)).length ≤ _
    rw [app_len, app_len]
    have e : ((", " : String) : Str).length = 2 := rfl
    unfold sumL at h ⊢
    rw [List.map_cons, List.sum_cons]
    omega
mutual
theorem shown_le : ∀ d : PyData, shOk d = true → d.shown.length ≤ szD d
  | .none, _ => by simp only [PyData.shown, szD]; decide
  | .bool b, _ => by cases b <;> simp only [PyData.shown, szD] <;> decide
  | .int i, h => by
    simp only [PyData.shown, szD]
    unfold shOk at h
    have z := int_text_length_le10 (by decide) (of_decide_eq_true h)
    rw [PySem.ofString_length]
    exact z
  | .str x, h => by
    simp only [PyData.shown, szD]
    unfold shOk strFine at h
    have h2 := List.all_eq_true.mp (Bool.and_eq_true_iff.mp h).2
    exact StrLaws.reprText_len x fun c hc => of_decide_eq_true (h2 c hc)
  | .list xs, h => by
    unfold shOk at h
    have q := shownA_le xs h
    simp only [PyData.shown, szD]
    unfold listText
    rw [app_len]
    have z := textFrom_le (PyData.shownAll xs) 0 ("[" : String)
    have e : (("[" : String) : Str).length = 1 := rfl
    have e2 : (("]" : String) : Str).length = 1 := rfl
    omega
  | .tuple xs, h => by
    unfold shOk at h
    have q := shownA_le xs h
    simp only [PyData.shown, szD]
    unfold tupleText
    rw [app_len, app_len]
    have z := join_le (PyData.shownAll xs)
    have e : (("(" : String) : Str).length = 1 := rfl
    have e2 : ((if (PyData.shownAll xs).length == 1 then ",)" else ")" : String) : Str).length ≤ 2 := by split <;> decide
    omega
  | .dict _, h => by unfold shOk at h; cases h
theorem shownA_le : ∀ xs : List PyData, shOkA xs = true → sumL (PyData.shownAll xs) ≤ szA xs
  | [], _ => Nat.le_refl _
  | x :: r, h => by
    unfold shOkA at h
    have h' := Bool.and_eq_true_iff.mp h
    have a := shown_le x h'.1
    have b := shownA_le r h'.2
    simp only [PyData.shownAll, szA]
    unfold sumL at b ⊢
    rw [List.map_cons, List.sum_cons]
    omega
end
mutual
theorem shOk_showable : ∀ d : PyData, shOk d = true → d.showable = true ∧ d.canLay0 = true
  | .none, _ => ⟨rfl, by simp [PyData.canLay0]⟩
  | .bool b, _ => ⟨rfl, by simp [PyData.canLay0]⟩
  | .int i, h => by
    unfold shOk at h
    have h := of_decide_eq_true h
    refine ⟨?_, by simp [PyData.canLay0]⟩
    simp only [PyData.showable]
    refine decide_eq_true ?_
    by_cases z : i.natAbs = 0
    · rw [z]; decide
    · exact Nat.lt_trans ((Nat.log2_lt z).mpr (Nat.lt_of_lt_of_le h (by decide : 10 ^ 60 ≤ 2 ^ 200))) (by decide)
  | .str x, h => ⟨rfl, by
    unfold shOk strFine at h
    simpa [PyData.canLay0] using (Bool.and_eq_true_iff.mp h).1⟩
  | .list xs, h => by
    unfold shOk at h
    have q := shOkA_showable xs h
    exact ⟨by simpa [PyData.showable] using q.1, by simpa [PyData.canLay0] using q.2⟩
  | .tuple xs, h => by
    unfold shOk at h
    have q := shOkA_showable xs h
    exact ⟨by simpa [PyData.showable] using q.1, by simpa [PyData.canLay0] using q.2⟩
  | .dict _, h => by unfold shOk at h; cases h
theorem shOkA_showable : ∀ xs : List PyData, shOkA xs = true → PyData.showableAll xs = true ∧ PyData.canLayAll0 xs = true
  | [], _ => ⟨rfl, by simp [PyData.canLayAll0]⟩
  | x :: r, h => by
    unfold shOkA at h
    have h' := Bool.and_eq_true_iff.mp h
    have a := shOk_showable x h'.1
    have b := shOkA_showable r h'.2
    exact ⟨by simp [PyData.showableAll, a.1, b.1], by simp [PyData.canLayAll0, a.2, b.2]⟩
end
theorem Rp.dict_nil {K : PySem.W.Frag} {H : Hp} : ∀ {v : V}, Rp K H v (.dict []) → ∃ a, v = .ref a ∧ H a = some (.dK [])
  | _, .dct (a := a) (kvs := kvs) h1 h2 _ _ _ => by
    have hk : kvs = [] := by
      cases kvs with
      | nil => rfl
      | cons _ _ => cases h2
    subst hk
    exact ⟨a, rfl, h1⟩
def oRepr : DON := fun xs Q => match xs with
  | [.dict kvs] => kvs = [] ∧ Q (.k (.str (PyData.shown (.dict []))))
  | [d] => shOk d = true ∧ szD d ≤ 100000 ∧ d.depth ≤ 20 ∧ Q (.k (.str d.shown))
  | _ => False
def rReprD (K : PySem.W.Frag) : List V → Hp → VK → Prop := fun xs H Q => (∃ v d, xs = [v] ∧ Rp K H v d ∧ shOk d = true ∧ szD d ≤ 100000 ∧ d.depth ≤ 20 ∧ Q (.str d.shown) H) ∨
  (∃ a, xs = [.ref a] ∧ H a = some (.dK []) ∧ Q (.str (PyData.shown (.dict []))) H)
section
variable {X : Cx}
theorem call_repr (hg : X.A.guards = some []) (hu : X.A.units + 64 < cLine) : CallR X (.builtin "repr") (rReprD X.K) := by
  intro pins s σ H xs us Q I r h
  rcases h with ⟨v, d, rfl, hd, h1, h2, h3, q⟩ | ⟨a, rfl, ha, q⟩
  · obtain ⟨u, rfl, ru⟩ := vals1 r
    obtain ⟨as, rd⟩ := Dp.reads I d v u (hd.dp (shOk_showable d h1).2) ru
    have hl : d.shown.length ≤ sizeLine := szl (Nat.le_trans (shown_le d h1) h2)
    have fin : ∀ h' tk t2, (∀ b o, s.heap.get? b = some o → h'.get? b = some o) → EP X pins σ Q (.str d.shown t2) { s with heap := h', toks := tk } := fun h' tk t2 hk => ⟨.str d.shown, H, I.kept hk, ⟨_, rfl⟩, q⟩
    have top : (∃ a, u = .ref a) → wpAny (model X.prog X.w) X.A (call (.builtin "repr") [u]) (EP X pins σ Q) X.xe s := by
      rintro ⟨a, rfl⟩
      exact repr_of_reads' rd (shOk_showable d h1).1 (PyData.noDict_hsm (PyData.hasDict_of_canLay d (shOk_showable d h1).2)) hg (by omega) (fun _ _ e => e)
        (fun h' t2 tk hk => fin h' tk t2 hk) hl
    cases hd with
    | non =>
      cases ru
      refine PySem.P.repr_of_none ?_
      have z := fin s.heap (s.toks + 1) s.toks (fun _ _ e => e)
      simpa only [PyData.shown] using z
    | bl b =>
      cases ru
      refine PySem.P.repr_of_bool ?_
      have z := fin s.heap (s.toks + 1) s.toks (fun _ _ e => e)
      cases b <;> simpa only [PyData.shown] using z
    | int i =>
      obtain ⟨t, rfl⟩ := ru
      have z := fin s.heap (s.toks + 1) s.toks (fun _ _ e => e)
      refine PySem.P.repr_of_int ?_ ?_
      · have := (shOk_showable _ h1).1
        simpa [PyData.showable] using this
      · simpa only [PyData.shown] using z
    | str x =>
      obtain ⟨t, rfl⟩ := ru
      have z := fin s.heap (s.toks + 1) s.toks (fun _ _ e => e)
      refine PySem.P.repr_of_str ?_ ?_
      · simpa only [PyData.shown] using z
      · simpa only [PyData.shown] using hl
    | lst _ _ => cases ru; exact top ⟨_, rfl⟩
    | tup _ _ => cases ru; exact top ⟨_, rfl⟩
    | dct _ _ _ _ _ => cases ru; exact top ⟨_, rfl⟩
    | scr _ => cases ru; exact top ⟨_, rfl⟩
  · obtain ⟨u, rfl, ru⟩ := vals1 r
    cases ru
    obtain ⟨_, hns, vs, kv, o, es, ep, e1, e2, e3, e4, e5, e6⟩ := I.hok a _ ha
    cases kv
    have hes : es.toList = [] := by
      have := e5.length
      simpa using this
    have rd : Reads s.heap (.ref a) (.dict []) _ := Reads.dict (kvs := []) e1 e2.1 e3 (by rw [hes]; exact .nil) (by rw [hes]; exact .nil)
    refine repr_of_reads' rd rfl (fun _ => ?_) hg (by show X.A.units + (PyData.depth (.dict []) + 1) < cLine; simp [PyData.depth, PyData.depthKv]; omega) (fun _ _ e => e) (fun h' t2 tk hk => ⟨.str _, H, I.kept hk, ⟨_, rfl⟩, q⟩) (by decide +kernel)
    have : a ≠ sysModules := by
      intro z
      rw [z] at hns
      simp at hns
    simp [Ne.symm this]
theorem cd_repr {K : PySem.W.Frag} : CallD K (rReprD K) oRepr := fun F hF W H σ ρ vs ds QD Q R o q p => by
  subst hF
  unfold oRepr at q
  split at q
  · rename_i kvs e
    obtain ⟨v, dv, rfl, rfl, o, e⟩ := opdA1 o e
    obtain ⟨rfl, q⟩ := q
    have h := o.data R
    rw [e] at h
    obtain ⟨a, rfl, h1⟩ := h.dict_nil
    exact .inr ⟨a, rfl, h1, p.here R (.str _) q⟩
  · rename_i d hn e
    obtain ⟨v, dv, rfl, rfl, o, e⟩ := opdA1 o e
    have h := o.data R
    rw [e] at h
    exact .inl ⟨v, d, rfl, h, q.1, q.2.1, q.2.2.1, p.here R (.str _) q.2.2.2⟩
  · exact q.elim
end
end DL

namespace DL
open PySem PySem.Spec PyProof.Rows L2

/-! ### a list or a tuple walked -/
def iSeq (K : PySem.W.Frag) (tl : TE) : TI := fun σ H R => tl σ H fun x H1 => ∃ a, x = .ref a ∧ (((∃ xs, SqL K H1 a xs) ∧ R (Itl K a) H1) ∨ ((∃ xs, SqT K H1 a xs) ∧ R (Itt K a) H1))
section
variable {X : Cx} {tg e : Expr} {t : DT}
theorem pi_seq {tl : TE} (hl : PE X e tl) : PI X tg e (iSeq X.K tl) := by
  refine ⟨fun pins s σ H R I h => ?_⟩
  refine thn (hl.run pins s σ H _ I h) fun v s1 ⟨x, H1, I1, r1, q1⟩ => ?_
  obtain ⟨a, z, q1⟩ := q1
  subst z
  cases r1
  have own : ∀ b ∈ [s1.heap.objs.size], FpOk X pins H1 b := fun b hb => by
    rw [List.mem_singleton.mp hb]
    exact I1.fpOk (Nat.le_refl _) (I1.hok.fresh (Nat.le_refl _))
  rcases q1 with ⟨⟨xs, hq⟩, q⟩ | ⟨⟨xs, hq⟩, q⟩
  · obtain ⟨its, rv, p, hz⟩ := I1.list hq
    exact wpAny_pyIter_list p.isList ⟨_, [s1.heap.objs.size], _, _, H1, rfl, I1.kept (t' := s1.toks) fun b o z => Heap.get?_push_of_some _ z,
      turn_list a _, ⟨_, Heap.get?_push_size _ rfl, rfl, rfl⟩, own, q⟩
  · obtain ⟨its, rv, p, hz⟩ := I1.tuple hq
    exact wpAny_pyIter_tuple (show s1.heap.IsTuple a its.toArray from p) ⟨_, [s1.heap.objs.size], _, _, H1, rfl, I1.kept (t' := s1.toks) fun b o z => Heap.get?_push_of_some _ z,
      turn_tuple a _, ⟨_, Heap.get?_push_size _ rfl, rfl, rfl⟩, own, q⟩
def seqOwn : DV → Option (List PyData × Bool)
  | .k (.list ds) => some (ds, false)
  | .k (.tuple ds) => some (ds, false)
  | .r _ ds => some (ds, true)
  | .f ds => some (ds, false)
  | _ => none
def diSeq (t : DT) : DIt := fun ρ Q => t ρ fun x => match seqOwn x with
  | some (ds, own) => Q ds own
  | none => False
theorem di_seq (h : DE X e t) : DI X tg e (diSeq t) := by
  obtain ⟨_, p, s⟩ := h
  refine ⟨_, pi_seq p, fun F hF ρ QI h W H σ R R' q => s.use hF h R fun v dv W1 H1 A1 R1 o q1 => ?_⟩
  obtain ⟨dw, rfl, q1⟩ := q1
  (try dsimp only at q1)
  split at q1
  · rename_i ds own e
    by_cases z : ∃ es, dw = .k (.tuple es)
    · obtain ⟨es, rfl⟩ := z
      obtain ⟨rfl, rfl⟩ := Prod.mk.inj (Option.some.inj e)
      have o' : Rp F.K W1 v (.tuple es) := o
      cases o' with
      | tup h1 h2 =>
        rw [← hF]
        exact ⟨_, rfl, .inr ⟨⟨_, sameT R1.sub h1⟩, q _ es false [] W1 H1 A1 R1 (walks_tup h1 h2) (fun _ => rfl) (fun p hp => nomatch hp) q1⟩⟩
    · have e' : listOwn dw = some (ds, own) := by
        cases dw with
        | k d =>
          cases d with
          | tuple es => exact absurd ⟨es, rfl⟩ z
          | list es => exact e
          | _ => cases e
        | r i es => exact e
        | f es => exact e
      obtain ⟨a, xs, keep, L⟩ := lw_of R1 o e'
      refine ⟨a, L.e, .inl ⟨⟨xs, .inl (.inl L.here)⟩, ?_⟩⟩
      rw [← hF]
      exact q _ ds own keep W1 H1 A1 R1 (walks_list L.at' L.r) L.k0 L.k1 q1
  · exact q1.elim
end

/-! ### defs -/
/-- the context of a def's body -/
abbrev bodyX (P : Program) (w : World) (K : PySem.W.Frag) (mg : Str → Option Value) (base : Heap) (N : List Str) (qual : Str) (st : Stmt) (f : Addr) (cdv : Value) (A : Around) (outer : List Env) (s : Shared) (H : Hp) (E : XK) : Cx :=
  (cxOf CX0 P w K mg base N qual (defScope st) f cdv A outer s H E).nox
section
variable {P : Program} {w : World} {K : PySem.W.Frag} {mg : Str → Option Value} {base : Heap}
theorem fn_D {x qual : Str} {st : Stmt} {f : Addr} {fd : FuncData} {N ps : List Str} {k : Nat} {c : DC}
    (F : Fun K x qual st f fd) (S : FnScope N ps (defScope st)) (hlen : ∀ xs QD, c xs QD → xs.length = ps.length) (hps : ps.length ≤ N.length)
    (hbody : ∀ (cdv : Value) (A : Around) (outer : List Env) (s : Shared) (H : Hp) (E : XK), A.guards = some [] → Room k (A.deeper (envOfC qual (defScope st) s.heap.objs.size f cdv)) →
      ∃ t, DSs (bodyX P w K mg base N qual st f cdv A outer s H E) (defBody st) t ∧ ∀ xs QD, c xs QD → t { nx := fun _ => QD (.k .none), rt := fun _ => QD } (startS N xs)) :
    FnG P w K mg base CX0 (k + 1) f fd ps (toSp K c) := by
  refine funG_ok F S (fun vs H Q E h => ?_) (fun cdv A outer s H vs Q E hg hr h => ?_)
  · obtain ⟨W, xs, QD, _, r, h, _⟩ := h
    rw [r.length]
    exact hlen xs QD h
  · obtain ⟨W, xs, QD, sub, r, h, post⟩ := h
    obtain ⟨t, ⟨ts, p, sm⟩, q⟩ := hbody cdv A outer s H E hg hr
    refine ⟨ts, p.nox, sm ⟨K, fun _ => False, W, H⟩ rfl _ _ (q xs QD h) W H _ (rel_start sub r (by rw [r.length, hlen xs QD h]; exact hps)) _ ⟨fun W' H' σ' ρ' _ R hq => ?_, fun v dv W' H' σ' ρ' _ R hv hq => ?_, fun _ _ _ _ _ _ z => z.elim, fun _ _ _ _ _ _ z => z.elim⟩⟩
    · exact post .non (.k .none) W' H' R.adv R.sub Rp.non hq
    · exact post v dv W' H' R.adv R.sub hv hq
theorem rel_startP {a : Addr} {W H : Hp} {N : List Str} {us : List V} {xs : List PyData} (sub : Same W H) (wa : W a = none) (pt : Pot K W H a) (r : RpA K W us xs) (hN : us.length + 1 ≤ N.length) :
    Rel ⟨K, fun p => p = a, W, H⟩ W H (L2.start N (.ref a :: us)) (startP N xs) := by
  have n := r.length
  have g0 : (L2.start N (.ref a :: us))[0]? = some (some (V.ref a)) := rfl
  have gs : ∀ {i : Nat} {v : V}, us[i]? = some v → (L2.start N (.ref a :: us))[i + 1]? = some (some v) := fun {i v} e => start_get (by simpa using e)
  have back : ∀ {i : Nat} {s : Sl}, (startP N xs)[i]? = some s → (i = 0 ∧ s = .pot) ∨ (∃ j d, i = j + 1 ∧ s = .sh d ∧ xs[j]? = some d) ∨ s = .un := fun {i s} e => by
    cases i with
    | zero =>
      cases e
      exact .inl ⟨rfl, rfl⟩
    | succ j =>
      unfold startP at e
      rw [List.getElem?_cons_succ] at e
      rcases startS_get e with ⟨d, h1, h2⟩ | h1
      · exact .inr (.inl ⟨j, d, rfl, h1, h2⟩)
      · exact .inr (.inr h1)
  refine ⟨Adv.refl, sub, ?_, fun i d e => ?_, fun i ds e => ?_, fun i j ds es a e => ?_, fun i e => ?_, fun i j e => ?_, fun p z => ?_, fun i ds es e => ?_, fun i j ds es fs gs e => ?_⟩
  · unfold L2.start startP
    rw [List.length_append, List.length_map, List.length_replicate, List.length_cons, List.length_cons, List.length_append, List.length_map, List.length_replicate, n]
    omega
  · rcases back e with ⟨_, z⟩ | ⟨j, d', rfl, z, h2⟩ | z
    · cases z
    · cases z
      obtain ⟨v, k1, k2⟩ := r.get h2
      exact ⟨v, gs k1, k2⟩
    · cases z
  · rcases back e with ⟨_, z⟩ | ⟨j, d', rfl, z, h2⟩ | z <;> cases z
  · rcases back e with ⟨_, z⟩ | ⟨j, d', rfl, z, h2⟩ | z <;> cases z
  · rcases back e with ⟨rfl, z⟩ | ⟨j, d', rfl, z, h2⟩ | z
    · exact ⟨a, g0, rfl⟩
    · cases z
    · cases z
  · rcases back e with ⟨_, z⟩ | ⟨j, d', rfl, z, h2⟩ | z <;> cases z
  · subst z
    exact ⟨⟨0, rfl, g0⟩, pt.some, wa, pt⟩
  · rcases back e with ⟨_, z⟩ | ⟨j, d', rfl, z, h2⟩ | z <;> cases z
  · rcases back e with ⟨_, z⟩ | ⟨j, d', rfl, z, h2⟩ | z <;> cases z
theorem fn_DP {x qual : Str} {st : Stmt} {f : Addr} {fd : FuncData} {N ps : List Str} {k : Nat} {c : DC}
    (F : Fun K x qual st f fd) (S : FnScope N ps (defScope st)) (hlen : ∀ xs QD, c xs QD → xs.length + 1 = ps.length) (hps : ps.length ≤ N.length)
    (hbody : ∀ (cdv : Value) (A : Around) (outer : List Env) (s : Shared) (H : Hp) (E : XK), A.guards = some [] → Room k (A.deeper (envOfC qual (defScope st) s.heap.objs.size f cdv)) →
      ∃ t, DSs (bodyX P w K mg base N qual st f cdv A outer s H E) (defBody st) t ∧ ∀ xs QD, c xs QD → t { nx := fun _ => QD (.k .none), rt := fun _ => QD } (startP N xs)) :
    FnG P w K mg base CX0 (k + 1) f fd ps (toSpP K c) := by
  refine funG_ok F S (fun vs H Q E h => ?_) (fun cdv A outer s H vs Q E hg hr h => ?_)
  · obtain ⟨a, us, W, xs, QD, rfl, _, _, _, r, h, _⟩ := h
    rw [List.length_cons, r.length]
    exact hlen xs QD h
  · obtain ⟨a, us, W, xs, QD, rfl, sub, wa, pt, r, h, post⟩ := h
    obtain ⟨t, ⟨ts, p, sm⟩, q⟩ := hbody cdv A outer s H E hg hr
    have R := rel_startP (N := N) sub wa pt r (by rw [r.length]; have := hlen xs QD h; omega)
    refine ⟨ts, p.nox, sm ⟨K, fun p => p = a, W, H⟩ rfl _ _ (q xs QD h) W H _ R _ ⟨fun W' H' σ' ρ' _ R hq => ?_, fun v dv W' H' σ' ρ' _ R hv hq => ?_, fun _ _ _ _ _ _ z => z.elim, fun _ _ _ _ _ _ z => z.elim⟩⟩
    · have z := R.pots a rfl
      exact post .non (.k .none) W' H' R.adv R.sub z.1 z.2 Rp.non hq
    · have z := R.pots a rfl
      exact post v dv W' H' R.adv R.sub z.1 z.2 hv hq
end
end DL

namespace DL
open PySem PySem.Spec PyProof.Rows L2

/-- the def x of the text -/
def Def (K : PySem.W.Frag) (mg : Str → Option Value) (x : Str) (st : Stmt) (ps : List Str) : Prop :=
  ∃ f fd, mg x = some (.ref f) ∧ Fun K x x st f fd ∧ L2.Binds K fd ps []
/-- .. does so with data -/
def OkD (P : Program) (w : World) (K : PySem.W.Frag) (mg : Str → Option Value) (base : Heap) (x : Str) (st : Stmt) (ps : List Str) (k : Nat) (c : DC) : Prop :=
  ∃ f fd, mg x = some (.ref f) ∧ Fun K x x st f fd ∧ L2.Binds K fd ps [] ∧ FnG P w K mg base CX0 k f fd ps (toSp K c)
def OkP (P : Program) (w : World) (K : PySem.W.Frag) (mg : Str → Option Value) (base : Heap) (x : Str) (st : Stmt) (ps : List Str) (k : Nat) (c : DC) : Prop :=
  ∃ f fd, mg x = some (.ref f) ∧ Fun K x x st f fd ∧ L2.Binds K fd ps [] ∧ FnG P w K mg base CX0 k f fd ps (toSpP K c)
section
variable {P : Program} {w : World} {K : PySem.W.Frag} {mg : Str → Option Value} {base : Heap}
theorem okD {x : Str} {st : Stmt} {N ps : List Str} {k : Nat} {c : DC} (T : Def K mg x st ps) (S : FnScope N ps (defScope st)) (hlen : ∀ xs QD, c xs QD → xs.length = ps.length) (hps : ps.length ≤ N.length)
    (hbody : ∀ (f : Addr) (cdv : Value) (A : Around) (outer : List Env) (s : Shared) (H : Hp) (E : XK), A.guards = some [] → Room k (A.deeper (envOfC x (defScope st) s.heap.objs.size f cdv)) →
      ∃ t, DSs (bodyX P w K mg base N x st f cdv A outer s H E) (defBody st) t ∧ ∀ xs QD, c xs QD → t { nx := fun _ => QD (.k .none), rt := fun _ => QD } (startS N xs)) :
    OkD P w K mg base x st ps (k + 1) c := by
  obtain ⟨f, fd, h1, h2, h3⟩ := T
  exact ⟨f, fd, h1, h2, h3, fn_D h2 S hlen hps fun cdv A outer s H E hg hr => hbody f cdv A outer s H E hg hr⟩
theorem okP {x : Str} {st : Stmt} {N ps : List Str} {k : Nat} {c : DC} (T : Def K mg x st ps) (S : FnScope N ps (defScope st)) (hlen : ∀ xs QD, c xs QD → xs.length + 1 = ps.length) (hps : ps.length ≤ N.length)
    (hbody : ∀ (f : Addr) (cdv : Value) (A : Around) (outer : List Env) (s : Shared) (H : Hp) (E : XK), A.guards = some [] → Room k (A.deeper (envOfC x (defScope st) s.heap.objs.size f cdv)) →
      ∃ t, DSs (bodyX P w K mg base N x st f cdv A outer s H E) (defBody st) t ∧ ∀ xs QD, c xs QD → t { nx := fun _ => QD (.k .none), rt := fun _ => QD } (startP N xs)) :
    OkP P w K mg base x st ps (k + 1) c := by
  obtain ⟨f, fd, h1, h2, h3⟩ := T
  exact ⟨f, fd, h1, h2, h3, fn_DP h2 S hlen hps fun cdv A outer s H E hg hr => hbody f cdv A outer s H E hg hr⟩
end
section
variable {X : Cx} {k : Nat} {st : Stmt} {ps : List Str} {c : DC} {x : Str} {p pos : Pos} {e : Expr} {es : List Expr} {ta : DTA}
theorem de_fn (G : OkD X.prog X.w X.K X.mg X.base x st ps k c) (hg : X.A.guards = some []) (hr : Room k X.A) (h : DAs X (e :: es) ta) (hgl : Gl X x := by rfl)
    (hdb : (x == ("__debug__" : Str)) = false := by decide) (he : starEach (e :: es) X.env = (false, eval e X.env) :: starEach es X.env := by rfl)
    (hpl : (backTo pos (starEach es X.env)).any (·.1) = false := by rfl) : DE X (.Call (.Name x p) (e :: es) [] pos) (dCall c ta) := by
  obtain ⟨f, fd, h1, h2, h3, h4⟩ := G
  exact de_call (E := E0) h4 hg hr hgl h1 h2.kp h3 pass0 h hdb he hpl
theorem de_fnP {y : Str} {p2 : Pos} (i : Nat) (G : OkP X.prog X.w X.K X.mg X.base x st ps k c) (hg : X.A.guards = some []) (hr : Room k X.A) (h : DAs X es ta) (hgl : Gl X x := by rfl) (hN : X.N[i]? = some y := by rfl)
    (hv : Vis X.env.scope y := by first | exact Or.inl rfl | exact Or.inr (Or.inl rfl) | exact Or.inr (Or.inr rfl))
    (hd : (y == ("__debug__" : Str)) = false := by decide) (hcd : (y == ("__classdict__" : Str)) = false := by decide)
    (hdb : (x == ("__debug__" : Str)) = false := by decide)
    (he : starEach (.Name y p2 :: es) X.env = (false, eval (.Name y p2) X.env) :: starEach es X.env := by rfl)
    (hpl : (backTo pos (starEach es X.env)).any (·.1) = false := by rfl) : DE X (.Call (.Name x p) (.Name y p2 :: es) [] pos) (dCallP c i ta) := by
  obtain ⟨f, fd, h1, h2, h3, h4⟩ := G
  exact de_callP (E := E0) h4 hg hr hgl h1 h2.kp h3 pass0 h hN hv hd hcd hdb he hpl
theorem hu65 {A : Around} (hr : Room k A) : A.units + 65 < cLine := by have := hr.un; omega
end
end DL

namespace DL
open PySem PySem.Spec PyProof.Rows L2

/-! ### loops over data, by what a turn does -/
theorem forW_ind {tg : DGt} {tb : DS} {DD : DEnds} (I : List PyData → List Sl → Prop)
    (hs : ∀ d r ρ N, I (d :: r) ρ → (∀ ρ', I r ρ' → N ρ') → tg d ρ fun ρ' => tb { DD with nx := N, ct := N, bk := DD.nx } ρ')
    (hd : ∀ ρ, I [] ρ → DD.nx ρ) : ∀ {ds : List PyData} {ρ : List Sl}, I ds ρ → forW tg tb DD ds ρ
  | [], ρ, h => hd ρ h
  | d :: r, ρ, h => hs d r ρ _ h fun ρ' h' => forW_ind I hs hd h'
/-- .. each turn gives an item or none, by the item walked -/
theorem lcW_fm {tg : DGt} {tt : DB} {te : DT} {ρ : List Sl} (g : PyData → Option PyData) {Q : List PyData → Prop} : ∀ {ds acc : List PyData},
    (∀ d ∈ ds, ∀ N : Option PyData → Prop, N (g d) → tg d ρ fun ρ' => tt ρ' fun b => if b = true then te ρ' fun y => ∃ z, y.toD = some z ∧ N (some z) else N none) →
    Q (acc ++ ds.filterMap g) → lcW tg tt te ρ ds acc Q
  | [], acc, _, q => by
    rw [List.filterMap_nil, List.append_nil] at q
    exact q
  | d :: r, acc, h, q => by
    refine h d List.mem_cons_self (fun o => match o with
      | some z => lcW tg tt te ρ r (acc ++ [z]) Q
      | none => lcW tg tt te ρ r acc Q) ?_
    have hr := fun d' hd' => h d' (List.mem_cons_of_mem d hd')
    rw [List.filterMap_cons] at q
    cases e : g d with
    | none =>
      rw [e] at q
      exact lcW_fm g hr q
    | some z =>
      rw [e] at q
      refine lcW_fm g hr ?_
      rw [List.append_assoc]
      exact q
/-- .. where draws are made: what holds of each item that may come -/
theorem lcW_any {tg : DGt} {tt : DB} {te : DT} {ρ : List Sl} (G : PyData → Prop) {Q : List PyData → Prop} : ∀ {ds acc : List PyData},
    (∀ d ∈ ds, ∀ N : Option PyData → Prop, N none → (∀ z, G z → N (some z)) → tg d ρ fun ρ' => tt ρ' fun b => if b = true then te ρ' fun y => ∃ z, y.toD = some z ∧ N (some z) else N none) →
    (∀ rs, (∀ z ∈ rs, G z) → rs.length ≤ ds.length → Q (acc ++ rs)) → lcW tg tt te ρ ds acc Q
  | [], acc, _, q => by
    have := q [] (fun _ h => nomatch h) (Nat.le_refl _)
    rw [List.append_nil] at this
    exact this
  | d :: r, acc, h, q => by
    have hr := fun d' hd' => h d' (List.mem_cons_of_mem d hd')
    refine h d List.mem_cons_self (fun o => match o with
      | some z => lcW tg tt te ρ r (acc ++ [z]) Q
      | none => lcW tg tt te ρ r acc Q) ?_ (fun z hz => ?_)
    · exact lcW_any G hr fun rs h1 h2 => q rs h1 (Nat.le_succ_of_le h2)
    · refine lcW_any G hr fun rs h1 h2 => ?_
      rw [List.append_assoc]
      exact q (z :: rs) (fun y hy => (List.mem_cons.mp hy).elim (fun e => e ▸ hz) (h1 y)) (Nat.succ_le_succ h2)
/-- .. each turn gives just one -/
theorem lcW_all {tg : DGt} {te : DT} {ρ : List Sl} (G : PyData → Prop) {Q : List PyData → Prop} : ∀ {ds acc : List PyData},
    (∀ d ∈ ds, ∀ N : PyData → Prop, (∀ z, G z → N z) → tg d ρ fun ρ' => te ρ' fun y => ∃ z, y.toD = some z ∧ N z) →
    (∀ rs, (∀ z ∈ rs, G z) → rs.length = ds.length → Q (acc ++ rs)) → lcW tg dYes te ρ ds acc Q
  | [], acc, _, q => by
    have := q [] (fun _ h => nomatch h) rfl
    rw [List.append_nil] at this
    exact this
  | d :: r, acc, h, q => by
    have hr := fun d' hd' => h d' (List.mem_cons_of_mem d hd')
    refine h d List.mem_cons_self (fun z => lcW tg dYes te ρ r (acc ++ [z]) Q) (fun z hz => ?_)
    refine lcW_all G hr fun rs h1 h2 => ?_
    rw [List.append_assoc]
    exact q (z :: rs) (fun y hy => (List.mem_cons.mp hy).elim (fun e => e ▸ hz) (h1 y)) (by rw [List.length_cons, List.length_cons, h2])
theorem lcW_map {tg : DGt} {te : DT} {ρ : List Sl} (g : PyData → PyData) {Q : List PyData → Prop} {ds : List PyData}
    (h : ∀ d ∈ ds, ∀ N : DV → Prop, N (.k (g d)) → tg d ρ fun ρ' => te ρ' N) (q : Q (ds.map g)) : lcW tg dYes te ρ ds [] Q := by
  refine lcW_fm (fun d => some (g d)) (fun d hd N hN => h d hd _ ⟨g d, rfl, hN⟩) ?_
  rw [List.nil_append, List.filterMap_eq_map']
  exact q
theorem lcW_bools {tg : DGt} {te : DT} {ρ : List Sl} (p : PyData → Bool) {Q : List PyData → Prop} {ds : List PyData}
    (h : ∀ d ∈ ds, ∀ N : DV → Prop, N (.k (.bool (p d))) → tg d ρ fun ρ' => te ρ' N) (q : Q ((ds.map p).map PyData.bool)) : lcW tg dYes te ρ ds [] Q := by
  refine lcW_map (fun d => .bool (p d)) h ?_
  rw [List.map_map] at q
  exact q
theorem fm_if {α β : Type} (p : α → Bool) (g : α → β) : ∀ ds : List α, ds.filterMap (fun d => if p d = true then some (g d) else none) = (ds.filter p).map g
  | [] => rfl
  | d :: r => by
    rw [List.filterMap_cons, List.filter_cons, fm_if p g r]
    by_cases z : p d = true
    · rw [if_pos z, if_pos z]; rfl
    · rw [if_neg z, if_neg z]
/-- what holds between a statement and the rest -/
theorem dSeq_cut {t u : DS} {DD : DEnds} {ρ : List Sl} (I : List Sl → Prop) (h1 : ∀ N : List Sl → Prop, (∀ ρ', I ρ' → N ρ') → t { DD with nx := N } ρ) (h2 : ∀ ρ', I ρ' → u DD ρ') : dSeq t u DD ρ := h1 _ h2
/-- nothing yet, or known data -/
def Pl (x : Sl) : Prop := x = .un ∨ ∃ d, x = .sh d
theorem Pl.un : Pl .un := .inl rfl
theorem Pl.sh (d : PyData) : Pl (.sh d) := .inr ⟨d, rfl⟩
/-- an item of a list at a remainder -/
theorem at_emod (cs : List Int) (k : Int) (h : 0 < (cs.length : Int)) : ∃ c, c ∈ cs ∧ atI (cs.map PyData.int) (k % (cs.length : Int)) = some (.int c) := by
  have h1 := Int.emod_nonneg k (Int.ne_of_gt h)
  have h2 := Int.emod_lt_of_pos k h
  obtain ⟨j, hj⟩ := Int.eq_ofNat_of_zero_le h1
  have hlt : j < cs.length := by omega
  refine ⟨cs[j], List.getElem_mem _, ?_⟩
  rw [hj]
  exact atI_nat (by rw [List.getElem?_map, List.getElem?_eq_getElem hlt]; rfl)
/-! ### shapes -/
theorem shp_int (i : Int) : shp (.int i) = true := by simp [SeqAt.shaped, PyData.canLay0, PyData.depth]
theorem shp_bool (i : Bool) : shp (.bool i) = true := by simp [SeqAt.shaped, PyData.canLay0, PyData.depth]
theorem shp_none : shp .none = true := by simp [SeqAt.shaped, PyData.canLay0, PyData.depth]
/-- n: its depth is at most n -/
def lowD (n : Nat) (d : PyData) : Bool := d.canLay0 && decide (d.depth ≤ n)
theorem lowD_int {n : Nat} (i : Int) : lowD n (.int i) = true := by simp [lowD, PyData.canLay0, PyData.depth]
theorem lowD_bool {n : Nat} (i : Bool) : lowD n (.bool i) = true := by simp [lowD, PyData.canLay0, PyData.depth]
theorem lowD_none {n : Nat} : lowD n .none = true := by simp [lowD, PyData.canLay0, PyData.depth]
theorem lowD_all {n : Nat} : ∀ {ds : List PyData}, (∀ d ∈ ds, lowD n d = true) → PyData.canLayAll0 ds = true ∧ PyData.depthAll ds ≤ n
  | [], _ => ⟨rfl, Nat.zero_le _⟩
  | d :: r, h => by
    have h1 := h d List.mem_cons_self
    have h2 := lowD_all fun x hx => h x (List.mem_cons_of_mem d hx)
    simp only [lowD, Bool.and_eq_true, decide_eq_true_eq] at h1
    refine ⟨by simp [PyData.canLayAll0, h1.1, h2.1], ?_⟩
    simp only [PyData.depthAll]
    omega
theorem lowD_tup {n : Nat} {ds : List PyData} (h : ∀ d ∈ ds, lowD n d = true) : lowD (n + 1) (.tuple ds) = true := by
  have z := lowD_all h
  have z2 := z.2
  simp only [lowD, PyData.canLay0, PyData.depth, z.1, Bool.true_and]
  exact decide_eq_true (by omega)
theorem lowD_lst {n : Nat} {ds : List PyData} (h : ∀ d ∈ ds, lowD n d = true) : lowD (n + 1) (.list ds) = true := by
  have z := lowD_all h
  have z2 := z.2
  simp only [lowD, PyData.canLay0, PyData.depth, z.1, Bool.true_and]
  exact decide_eq_true (by omega)
theorem lowD_mono {n m : Nat} {d : PyData} (hn : n ≤ m) (h : lowD n d = true) : lowD m d = true := by
  simp only [lowD, Bool.and_eq_true, decide_eq_true_eq] at h ⊢
  exact ⟨h.1, Nat.le_trans h.2 hn⟩
theorem lowD_shp {n : Nat} {d : PyData} (h : lowD n d = true) (hn : n ≤ 64 := by decide) : shp d = true := by
  have z := lowD_mono hn h
  exact z
/-! ### slices by numbers from 0 on -/
theorem cutD_from (ds : List PyData) (k : Nat) : cutD ds (some (k : Int)) none = ds.drop k := by
  unfold cutD
  rw [HT.sIx_nat, HT.sIx_none]
  by_cases h : k ≤ ds.length
  · rw [Nat.min_eq_left h]
    exact List.take_of_length_le (by rw [List.length_drop]; omega)
  · rw [Nat.min_eq_right (by omega), List.drop_length, List.drop_of_length_le (by omega)]
    simp
theorem cutD_to (ds : List PyData) (k : Nat) : cutD ds none (some (k : Int)) = ds.take k := by
  unfold cutD
  rw [HT.sIx_nat, HT.sIx_none, List.drop_zero, Nat.sub_zero]
  by_cases h : k ≤ ds.length
  · rw [Nat.min_eq_left h]
  · rw [Nat.min_eq_right (by omega), List.take_length, List.take_of_length_le (by omega)]
theorem cutD_len (ds : List PyData) (lo hi : Option Int) : (cutD ds lo hi).length ≤ ds.length := by
  unfold cutD
  rw [List.length_take, List.length_drop]
  omega
theorem cutD_mem {ds : List PyData} {lo hi : Option Int} {d : PyData} (h : d ∈ cutD ds lo hi) : d ∈ ds := by
  unfold cutD at h
  exact List.mem_of_mem_drop (List.mem_of_mem_take h)
theorem zipD_len (ds es : List PyData) : (zipD ds es).length ≤ ds.length := by
  unfold zipD
  rw [List.length_map, List.length_zip]
  omega
theorem zipD_mem {ds es : List PyData} {d : PyData} (h : d ∈ zipD ds es) : ∃ x y, x ∈ ds ∧ y ∈ es ∧ d = .tuple [x, y] := by
  unfold zipD at h
  obtain ⟨p, h1, rfl⟩ := List.mem_map.mp h
  have h2 := List.of_mem_zip h1
  exact ⟨p.1, p.2, h2.1, h2.2, rfl⟩
/-! ### isinstance, by cases -/
theorem isT_int (d : PyData) : isT "int" d = (match d with | .int _ => true | .bool _ => true | _ => false) := by
  unfold isT tyD
  split <;> rfl
theorem isT_bool (d : PyData) : isT "bool" d = (match d with | .bool _ => true | _ => false) := by
  unfold isT tyD
  split <;> rfl
theorem isT_tuple (d : PyData) : isT "tuple" d = (match d with | .tuple _ => true | _ => false) := by
  unfold isT tyD
  split <;> rfl
theorem isT_str (d : PyData) : isT "str" d = (match d with | .str _ => true | _ => false) := by
  unfold isT tyD
  split <;> rfl
end DL

namespace DL
open PySem PySem.Spec PyProof.Rows L2

/-! ### an own slot's list becomes known -/
def dFrz (i : Nat) (t : DS) : DS := fun DD ρ => match ρ[i]? with
  | some (.own ds) => okSet ρ i = true ∧ t DD (ρ.set i (.sh (.list ds)))
  | _ => False
theorem ds_frz {X : Cx} {st : List Stmt} {t : DS} (i : Nat) : DSs X st t → DSs X st (dFrz i t)
  | ⟨ts, p, s⟩ => ⟨ts, p, fun F hF DD ρ h W H σ R D l => by
    unfold dFrz at h
    split at h
    · rename_i ds e
      obtain ⟨ok, h⟩ := h
      obtain ⟨a, xs, h1, h2, h3, h4, h5⟩ := R.own i ds e
      have sm : Same W (upd W a (.lst xs)) := fun b u q => by
        rw [upd_ne (ne_of_none q h3)]
        exact q
      have ne : ∀ {b : Addr} {k : Nat} {es : List PyData}, ρ[k]? = some (Sl.own es) → σ[k]? = some (some (V.ref b)) → k ≠ i → b ≠ a := fun {b k es} e1 e2 z q => by
        subst q
        exact z (R.dis k i es ds b e1 e e2 h1)
      have il : i < ρ.length := (List.getElem?_eq_some_iff.mp e).1
      have gs : ∀ {k : Nat} {x : Sl}, (ρ.set i (.sh (.list ds)))[k]? = some x → (k = i ∧ x = Sl.sh (.list ds)) ∨ (k ≠ i ∧ ρ[k]? = some x) := fun {k x} e => by
        by_cases z : k = i
        · subst z
          rw [List.getElem?_set_self il] at e
          exact .inl ⟨rfl, (Option.some.inj e).symm⟩
        · rw [List.getElem?_set_ne (Ne.symm z)] at e
          exact .inr ⟨z, e⟩
      refine s F hF DD _ h (upd W a (.lst xs)) H σ ⟨⟨R.adv.ex.trans sm, R.adv.gw, R.adv.th, fun p o q => ?_⟩, fun b u q => ?_, by rw [List.length_set]; exact R.len, fun k d q => ?_, fun k es q => ?_, fun k m es fs b q1 q2 => ?_, fun k q => ?_, fun k j q => ?_, fun p hp => ?_, fun k fs hs q => ?_, fun k j fs hs fs' hs' q1 q2 => ?_⟩ D (l.from sm)
      · by_cases z : p = a
        · subst z; exact .inr h2
        · rw [upd_ne z] at q; exact R.adv.nw p o q
      · by_cases z : b = a
        · subst z; rw [upd_same] at q; cases q; exact h4
        · rw [upd_ne z] at q; exact R.sub b u q
      · rcases gs q with ⟨rfl, q'⟩ | ⟨z, q'⟩
        · cases q'
          exact ⟨.ref a, h1, .lst upd_same (h5.mono sm)⟩
        · obtain ⟨v, k1, k2⟩ := R.sh k d q'
          exact ⟨v, k1, k2.mono sm⟩
      · rcases gs q with ⟨rfl, q'⟩ | ⟨z, q'⟩
        · cases q'
        · obtain ⟨b, ys, k1, k2, k3, k4, k5⟩ := R.own k es q'
          refine ⟨b, ys, k1, k2, ?_, k4, k5.mono sm⟩
          rw [upd_ne (ne q' k1 z)]
          exact k3
      · rcases gs q1 with ⟨rfl, q1'⟩ | ⟨z, q1'⟩
        · cases q1'
        · rcases gs q2 with ⟨rfl, q2'⟩ | ⟨z, q2'⟩
          · cases q2'
          · exact R.dis k m es fs b q1' q2'
      · rcases gs q with ⟨rfl, q'⟩ | ⟨z, q'⟩
        · cases q'
        · exact R.pot k q'
      · rcases gs q with ⟨rfl, q'⟩ | ⟨z, q'⟩
        · cases q'
        · obtain ⟨⟨es, k1⟩, k2⟩ := R.al k j q'
          refine ⟨⟨es, ?_⟩, k2⟩
          rw [List.getElem?_set_ne (fun z2 => okSet_al ok (by rw [z2]; exact q'))]
          exact k1
      · obtain ⟨⟨k, k1, k2⟩, k3, k4, k5⟩ := R.pp p hp
        have pa : p ≠ a := fun z => k3 (by rw [z]; exact h2)
        refine ⟨⟨k, ?_, k2⟩, k3, by rw [upd_ne pa]; exact k4, k5.mono sm fun o q => q⟩
        rw [List.getElem?_set_ne (fun z => by rw [← z, e] at k1; cases k1)]
        exact k1
      · rcases gs q with ⟨rfl, q'⟩ | ⟨z, q'⟩
        · cases q'
        · obtain ⟨t, b, c, us, ws, O⟩ := R.o2 k fs hs q'
          have nn := O.no i ds e
          rw [h1] at nn
          have n1 : b ≠ a := fun z => nn.1 (by rw [z])
          have n2 : c ≠ a := fun z => nn.2 (by rw [z])
          refine ⟨t, b, c, us, ws, O.st, sm _ _ O.tw, O.ab, O.ba, O.bb, by rw [upd_ne n1]; exact O.wa, by rw [upd_ne n2]; exact O.wb, O.ha, O.hb, O.ra.mono sm, O.rb.mono sm, fun m fs em => ?_⟩
          rcases gs em with ⟨_, em2⟩ | ⟨_, em2⟩
          · cases em2
          · exact O.no m fs em2
      · rcases gs q1 with ⟨_, q1'⟩ | ⟨_, q1'⟩
        · cases q1'
        · rcases gs q2 with ⟨_, q2'⟩ | ⟨_, q2'⟩
          · cases q2'
          · exact R.o1 k j _ _ _ _ q1' q2'
    · exact h.elim⟩

/-! ### the pot's items read and stored -/
theorem Rel.potMut {F : Fx} {W H : Hp} {σ : L2.St} {ρ : List Sl} (R : Rel F W H σ ρ) {a : Addr} {xs : List V} (ha : F.P a) (hp : Pot F.K W (upd H a (.lst xs)) a) : Rel F W (upd H a (.lst xs)) σ ρ := by
  obtain ⟨_, hB, hW, hP⟩ := R.pp a ha
  refine ⟨⟨R.adv.ex, fun p o e n => ?_, fun p e => ?_, R.adv.nw⟩, same_updH R.sub hW, R.len, R.sh, fun i ds e => ?_, R.dis, R.pot, R.al, fun p h => ?_, fun i ds es e => ?_, R.o1⟩
  · rw [upd_ne (show p ≠ a from fun z => n (by rw [z]; exact ha))]
    exact R.adv.gw p o e n
  · by_cases z : p = a
    · subst z; rw [upd_same]; simp
    · rw [upd_ne z]; exact R.adv.th p e
  · obtain ⟨b, ys, k1, k2, k3, k4, k5⟩ := R.own i ds e
    refine ⟨b, ys, k1, k2, k3, ?_, k5⟩
    rw [upd_ne (show b ≠ a from fun z => hB (by rw [← z]; exact k2))]
    exact k4
  · obtain ⟨k1, k2, k3, k4⟩ := R.pp p h
    by_cases z : p = a
    · subst z; exact ⟨k1, k2, k3, hp⟩
    · exact ⟨k1, k2, k3, k4.mono (Same.refl W) fun o q => by rw [upd_ne z]; exact q⟩
  · obtain ⟨t, b, c, us, ws, O⟩ := R.o2 i ds es e
    exact ⟨t, b, c, us, ws, O.st, O.tw, O.ab, O.ba, O.bb, O.wa, O.wb, by rw [upd_ne (show b ≠ a from fun z => hB (by rw [← z]; exact O.ba))]; exact O.ha, by rw [upd_ne (show c ≠ a from fun z => hB (by rw [← z]; exact O.bb))]; exact O.hb, O.ra, O.rb, O.no⟩
section
variable {X : Cx} {x : Str} {e : Expr} {te : DT} {pos p2 p3 : Pos} {j : Nat}
def dPotC (i : Nat) : DT := fun ρ Q => ρ[i]? = some .pot ∧ ∀ cs : List Int, (∀ n ∈ cs, 0 ≤ n) → cs.length ≤ 17 → Q (.k (.list (cs.map PyData.int)))
def dPotI (i : Nat) : DT := fun ρ Q => ρ[i]? = some .pot ∧ ∀ v : Int, 0 ≤ v → Q (.k (.int v))
theorem de_potC (i : Nat) (hN : X.N[i]? = some x := by rfl) (hv : Vis X.env.scope x := by first | exact Or.inl rfl | exact Or.inr (Or.inl rfl) | exact Or.inr (Or.inr rfl))
    (hd : (x == ("__debug__" : Str)) = false := by decide) (hcd : (x == ("__classdict__" : Str)) = false := by decide)
    (hs : PlainIx (.Constant (.int 0) j p2) := by intro _ _; rfl) : DE X (.Subscript (.Name x p3) (.Constant (.int 0) j p2) pos) (dPotC i) :=
  ⟨_, pe_ix ix_list (pe_var hN hv hd hcd) pe_int hs, fun F hF ρ QD h W H σ R Q p => by
    obtain ⟨a, h1, h2⟩ := R.pot i h.1
    obtain ⟨_, _, _, c, pp, xx, rr, cs, k1, k2, k3, k4, _⟩ := R.pp a h2
    exact ⟨.ref a, h1, a, _, 0, .ref c, rfl, rfl, .inl (.inl k1), rfl, p.here R (.lst k2 (RpA.ints cs)) (h.2 cs k3 k4)⟩⟩
theorem de_potI {k : Int} (i : Nat) (hk : k = 1 ∨ k = 2 ∨ k = 3) (hN : X.N[i]? = some x := by rfl) (hv : Vis X.env.scope x := by first | exact Or.inl rfl | exact Or.inr (Or.inl rfl) | exact Or.inr (Or.inr rfl))
    (hd : (x == ("__debug__" : Str)) = false := by decide) (hcd : (x == ("__classdict__" : Str)) = false := by decide)
    (hs : PlainIx (.Constant (.int k) j p2) := by intro _ _; rfl) : DE X (.Subscript (.Name x p3) (.Constant (.int k) j p2) pos) (dPotI i) :=
  ⟨_, pe_ix ix_list (pe_var hN hv hd hcd) pe_int hs, fun F hF ρ QD h W H σ R Q p => by
    obtain ⟨a, h1, h2⟩ := R.pot i h.1
    obtain ⟨_, _, _, c, pp, xx, rr, cs, k1, k2, k3, k4, k5, k6, k7⟩ := R.pp a h2
    rcases hk with rfl | rfl | rfl
    · exact ⟨.ref a, h1, a, _, 1, .int pp, rfl, rfl, .inl (.inl k1), rfl, p.here R (.int _) (h.2 pp k5)⟩
    · exact ⟨.ref a, h1, a, _, 2, .int xx, rfl, rfl, .inl (.inl k1), rfl, p.here R (.int _) (h.2 xx k6)⟩
    · exact ⟨.ref a, h1, a, _, 3, .int rr, rfl, rfl, .inl (.inl k1), rfl, p.here R (.int _) (h.2 rr k7)⟩⟩
def dPotSet (i : Nat) (te : DT) : DS := fun DD ρ => te ρ fun y => ρ[i]? = some .pot ∧ ∃ v : Int, y.data = .int v ∧ 0 ≤ v ∧ DD.nx ρ
theorem ds_potSet {k : Int} {st : Stmt} (i : Nat) (hk : k = 1 ∨ k = 2 ∨ k = 3) (he : DE X e te) (hN : X.N[i]? = some x) (hv : Vis X.env.scope x)
    (hd : (x == ("__debug__" : Str)) = false) (hcd : (x == ("__classdict__" : Str)) = false)
    (hx : ∀ t1, PE X e t1 → PE X (.Name x p3) (tVar i) → PS X st (tAsg t1 (gSub (tVar i) (tC (.int k)) rSetL))) : DSt X st (dPotSet i te) := by
  obtain ⟨_, p1, s1⟩ := he
  refine ⟨_, hx _ p1 (pe_var hN hv hd hcd), fun F hF DD ρ h W H σ R D l => s1.use hF h R fun v dv W1 H1 A1 R1 o q => ?_⟩
  obtain ⟨dw, rfl, hp, z, e1, hz, q⟩ := q
  obtain rfl := o.int R1 (by rw [DV.norm_data]; exact e1)
  obtain ⟨a, h1, h2⟩ := R1.pot i hp
  obtain ⟨_, _, _, c, pp, xx, rr, cs, k1, k2, k3, k4, k5, k6, k7⟩ := R1.pp a h2
  rcases hk with rfl | rfl | rfl
  · exact ⟨.ref a, h1, a, _, 1, 1, rfl, rfl, k1, rfl, l.nx W1 _ σ ρ A1.ex (R1.potMut h2 ⟨c, z, xx, rr, cs, upd_same, k2, k3, k4, hz, k6, k7⟩) q⟩
  · exact ⟨.ref a, h1, a, _, 2, 2, rfl, rfl, k1, rfl, l.nx W1 _ σ ρ A1.ex (R1.potMut h2 ⟨c, pp, z, rr, cs, upd_same, k2, k3, k4, k5, hz, k7⟩) q⟩
  · exact ⟨.ref a, h1, a, _, 3, 3, rfl, rfl, k1, rfl, l.nx W1 _ σ ρ A1.ex (R1.potMut h2 ⟨c, pp, xx, z, cs, upd_same, k2, k3, k4, k5, k6, hz⟩) q⟩
end

/-! ### the law's def: pot = _law_pot_of(script), then the rest -/
/-- the new pot that pot_of hands back -/
def c_pot_of : DC := fun xs Q => ∃ ns : List Int, xs = [.dict [(.none, .list (ns.map PyData.int))]] ∧ ns.length ≤ 63 ∧
  ∀ cs : List Int, (∀ n ∈ cs, 0 ≤ n) → cs.length ≤ 17 → Q (.f [.list (cs.map PyData.int), .int 0, .int 0, .int 0])
def spLaw (K : PySem.W.Frag) : Sp := fun vs H Q _ => ∃ (a : Addr) (ns : List Int), vs = [.ref a] ∧ SqL K H a (ns.map V.int) ∧ ns.length ≤ 63 ∧ ∀ H', Q (.bl true) H'
section
variable {P : Program} {w : World} {K : PySem.W.Frag} {mg : Str → Option Value} {base : Heap}
theorem okLaw {st st0 : Stmt} {rest : List Stmt} {N : List Str} {k j : Nat} {stp : Stmt} {psp : List Str} {p1 p2 p3 pos : Pos} {f : Addr} {fd : FuncData}
    (F : Fun K "law" "law" st f fd) (S : FnScope N ["script"] (defScope st)) {pv : Str} (hN : N = ("script" : Str) :: pv :: N.drop 2) (hb : defBody st = st0 :: rest)
    {pf : Str} (Gp : OkD P w K mg base pf stp psp j c_pot_of) (hj : j ≤ k)
    (h0 : ∀ (cdv : Value) (A : Around) (outer : List Env) (s : Shared) (H : Hp) (E : XK), A.guards = some [] → Room k (A.deeper (envOfC "law" (defScope st) s.heap.objs.size f cdv)) →
      DSt (bodyX P w K mg base N "law" st f cdv A outer s H E) st0 (dSet 1 (dCall c_pot_of (dCons (dVar 0) dNil))))
    (hbody : ∀ (cdv : Value) (A : Around) (outer : List Env) (s : Shared) (H : Hp) (E : XK), A.guards = some [] → Room k (A.deeper (envOfC "law" (defScope st) s.heap.objs.size f cdv)) →
      ∃ t, DSs (bodyX P w K mg base N "law" st f cdv A outer s H E) rest t ∧ t { nx := fun _ => False, rt := fun _ dv => dv = .k (.bool true) } (.un :: .pot :: List.replicate (N.length - 2) .un)) :
    FnG P w K mg base CX0 (k + 1) f fd ["script"] (spLaw K) := by
  refine funG_ok F S (fun vs H Q E h => ?_) (fun cdv A outer s H vs Q E hg hr h => ?_)
  · obtain ⟨a, ns, rfl, _⟩ := h
    rfl
  · obtain ⟨a, ns, rfl, hS, hl, q⟩ := h
    obtain ⟨t0, pp0, s0⟩ := h0 cdv A outer s H E hg hr
    obtain ⟨t, ⟨ts, p, sm⟩, ht⟩ := hbody cdv A outer s H E hg hr
    rw [hb]
    refine ⟨_, (pss_cons pp0 p).nox, ?_⟩
    have hn : 2 ≤ N.length := by rw [hN]; simp
    have R : Rel ⟨K, fun _ => False, H, H⟩ H H (L2.start N [.ref a]) (startS N [.dict [(.none, .list (ns.map PyData.int))]]) :=
      rel_start (Same.refl H) (.cons (.scr hS) .nil) (by simp; omega)
    refine s0 ⟨K, fun _ => False, H, H⟩ rfl { nx := fun ρ => ∃ cs : List Int, (∀ n ∈ cs, 0 ≤ n) ∧ cs.length ≤ 17 ∧ ρ = (startS N [.dict [(.none, .list (ns.map PyData.int))]]).set 1 (.own [.list (cs.map PyData.int), .int 0, .int 0, .int 0]), rt := fun _ _ => False } _ ?_ H H _ R _ ⟨fun W' H' σ' ρ' _ R' hq => ?_, fun _ _ _ _ _ _ _ _ _ z => z.elim, fun _ _ _ _ _ _ z => z.elim, fun _ _ _ _ _ _ z => z.elim⟩
    · refine ⟨_, rfl, ns, rfl, hl, fun cs h1 h2 => ⟨?_, cs, h1, h2, rfl⟩⟩
      unfold startS okSet
      rw [List.map_cons, List.map_nil]
      obtain ⟨m, hm⟩ : ∃ m, N.length - 1 = m + 1 := ⟨N.length - 2, by omega⟩
      rw [List.length_singleton, hm, List.replicate_succ]
      simp
    · obtain ⟨cs, h1, h2, rfl⟩ := hq
      have hl1 : 1 < (startS N [PyData.dict [(.none, .list (ns.map PyData.int))]]).length := by
        unfold startS
        simp
        omega
      obtain ⟨b, xs, e1, e2, e3, e4, e5⟩ := R'.own 1 _ (List.getElem?_set_self hl1)
      have r5 := e5
      cases r5 with
      | cons r1 r5 =>
      cases r5 with
      | cons r2 r5 =>
      cases r5 with
      | cons r3 r5 =>
      cases r5 with
      | cons r4 r5 =>
      cases r5
      cases r2
      cases r3
      cases r4
      cases r1 with
      | lst m1 m2 =>
      rename_i c ys
      have mm := RpA.of_ints m2
      subst mm
      have pt : Pot K W' H' b := ⟨c, 0, 0, 0, cs, e4, m1, h1, h2, Int.le_refl _, Int.le_refl _, Int.le_refl _⟩
      have back : ∀ {i : Nat} {s : Sl}, (Sl.un :: Sl.pot :: List.replicate (N.length - 2) Sl.un)[i]? = some s → s = .un ∨ (i = 1 ∧ s = .pot) := fun {i s} e => by
        match i, e with
        | 0, e => cases e; exact .inl rfl
        | 1, e => cases e; exact .inr ⟨rfl, rfl⟩
        | i + 2, e =>
          rw [List.getElem?_cons_succ, List.getElem?_cons_succ] at e
          exact .inl (List.eq_of_mem_replicate (List.mem_of_getElem? e))
      refine sm ⟨K, fun p => p = b, W', H'⟩ rfl _ _ ht W' H' σ' ⟨Adv.refl, R'.sub, ?_, fun i d e => ?_, fun i ds e => ?_, fun i j ds es a e => ?_, fun i e => ?_, fun i j e => ?_, fun p z => ?_, fun i ds es e => ?_, fun i j ds es fs gs e => ?_⟩ _
        ⟨fun _ _ _ _ _ _ z => z.elim, fun v dv W2 H2 σ2 ρ2 _ R2 hv hq => ?_, fun _ _ _ _ _ _ z => z.elim, fun _ _ _ _ _ _ z => z.elim⟩
      · have := R'.len
        rw [this, List.length_set]
        unfold startS
        simp
        omega
      · rcases back e with z | ⟨_, z⟩ <;> cases z
      · rcases back e with z | ⟨_, z⟩ <;> cases z
      · rcases back e with z | ⟨_, z⟩ <;> cases z
      · rcases back e with z | ⟨rfl, z⟩
        · cases z
        · exact ⟨b, e1, rfl⟩
      · rcases back e with z | ⟨_, z⟩ <;> cases z
      · subst z
        exact ⟨⟨1, rfl, e1⟩, pt.some, e3, pt⟩
      · rcases back e with z | ⟨_, z⟩ <;> cases z
      · rcases back e with z | ⟨_, z⟩ <;> cases z
      · subst hq
        cases hv
        exact q H2
end
end DL

namespace DL
open PySem PySem.Spec PyProof.Rows L2
section
variable {X : Cx} {tg e e2 : Expr} {t t2 : DT} {pos p : Pos}
/-! ### the places and items of a list -/
def enumOf : List DV → Option (List PyData × Bool)
  | [dv] => (listOwn dv).map fun z => (enumD z.1, z.2)
  | _ => none
def diEnum (ta : DTA) : DIt := fun ρ Q => ta ρ fun xs => ∃ ds own, enumOf xs = some (ds, own) ∧ Q ds own
theorem di_enumerate {a : Expr} {ta : DTA} {elts : List Expr} {kk : Nat} {tpos : Pos} (hg : Gl X "enumerate") (hm : X.mg "enumerate" = none) (h : DAs X [a] ta)
    (hs : starEach [a] X.env = [(false, eval a X.env)] := by rfl) : DI X (.Tuple elts kk tpos) (.Call (.Name "enumerate" p) [a] [] pos) (diEnum ta) := by
  obtain ⟨_, p1, s1⟩ := h
  refine ⟨_, pi_enum hg hm p1 hs, fun F hF ρ QI h W H σ R R' q => s1 F hF ρ _ h W H σ R _ fun vs ds W1 H1 A1 R1 o q1 => ?_⟩
  obtain ⟨es, own, e, q1⟩ := q1
  rw [← hF]
  cases o with
  | nil => cases e
  | cons o1 o =>
    cases o with
    | cons o2 o => cases e
    | nil =>
      rename_i v dv
      have e' : (listOwn dv).map (fun z => (enumD z.1, z.2)) = some (es, own) := e
      cases hl : listOwn dv with
      | none => rw [hl] at e'; cases e'
      | some z =>
        rw [hl] at e'
        obtain ⟨rfl, rfl⟩ := Prod.mk.inj (Option.some.inj e')
        have o3 : Opd F σ ρ W1 v dv.norm := by
          cases dv with
          | k d => exact o1
          | r i ds => exact o1
          | f ds => exact o1.elim
        obtain ⟨a, xs, keep, L⟩ := lw_of R1 o3 (show listOwn dv = some (z.1, z.2) from hl)
        exact ⟨a, xs, by rw [L.e], .inl (.inl L.here), q _ _ _ keep W1 H1 A1 R1 (walks_enum L.at' L.r) L.k0 L.k1 q1⟩
/-! ### the statements as they are written -/
theorem ds_setIxS {o i e : Expr} {to ti te : DT} {p2 pos : Pos} (he : DE X e te) (ho : DE X o to) (hi : DE X i ti)
    (hx : ∀ t1 t2 t3, PE X e t1 → PE X o t2 → PE X i t3 → PS X (.Assign [.Subscript o i p2] e pos) (tAsg t1 (gSub t2 t3 rSetL))) : DSt X (.Assign [.Subscript o i p2] e pos) (dSetIx to ti te) := ds_setIx (p2 := p2) (pos := pos) he ho hi hx
theorem ds_appS {o e : Expr} {to te : DT} {pos apos cpos : Pos} (ho : DE X o to) (he : DE X e te) (hx : ∀ t1 t2, PE X o t1 → PE X e t2 → PS X (.Expr (.Call (.Attribute o "append" apos) [e] [] cpos) pos) (tDrop (tBM X.K "list" rAppend t1 (tCons t2 tNil)))) :
    DSt X (.Expr (.Call (.Attribute o "append" apos) [e] [] cpos) pos) (dApp to te) := ds_app (pos := pos) (apos := apos) (cpos := cpos) ho he hx
theorem ds_parS {i j : Nat} {a b : Expr} {ta tb : DT} {x y : Str} {px py pt pos : Pos} {kt k2 pt2} (ha : DE X a ta) (hb : DE X b tb)
    (hp : ∀ t1 t2, PE X a t1 → PE X b t2 → PS X (.Assign [.Tuple [.Name x px, .Name y py] kt pt] (.Tuple [a, b] k2 pt2) pos) (tPar i j (tCons t1 (tCons t2 tNil)))) :
    DSt X (.Assign [.Tuple [.Name x px, .Name y py] kt pt] (.Tuple [a, b] k2 pt2) pos) (dPar i j ta tb) := ds_par ha hb hp
theorem ds_potSetS {k : Int} {x : Str} {e : Expr} {te : DT} {pos p2 p3 p4 : Pos} {j : Nat} (i : Nat) (hk : k = 1 ∨ k = 2 ∨ k = 3) (he : DE X e te) (hN : X.N[i]? = some x) (hv : Vis X.env.scope x)
    (hd : (x == ("__debug__" : Str)) = false) (hcd : (x == ("__classdict__" : Str)) = false)
    (hx : ∀ t1, PE X e t1 → PE X (.Name x p3) (tVar i) → PS X (.Assign [.Subscript (.Name x p3) (.Constant (.int k) j p2) p4] e pos) (tAsg t1 (gSub (tVar i) (tC (.int k)) rSetL))) :
    DSt X (.Assign [.Subscript (.Name x p3) (.Constant (.int k) j p2) p4] e pos) (dPotSet i te) := ds_potSet (p3 := p3) i hk he hN hv hd hcd hx
end
end DL

namespace DL
open PySem PySem.Spec PyProof.Rows L2
/-! ### texts compared -/
def oNeS : DO2 := fun x y Q => match x, y with
  | .str a, .str b => Q (.k (.bool (!decide (a = b))))
  | _, _ => False
def oEqS : DO2 := fun x y Q => match x, y with
  | .str a, .str b => Q (.k (.bool (decide (a = b))))
  | _, _ => False
theorem dec_strV {a b : Str} : decide (V.str a = V.str b) = decide (a = b) := by
  by_cases h : a = b
  · subst h; simp
  · rw [decide_eq_false h, decide_eq_false (fun z => h (V.str.inj z))]
theorem opd_neS {K : PySem.W.Frag} : OpD K rNe oNeS := fun F hF W H σ ρ v1 v2 d1 d2 QD Q R o1 o2 q p => by
  subst hF
  unfold oNeS at q
  split at q
  · rename_i a b e1 e2
    obtain rfl := o1.str R e1
    obtain rfl := o2.str R e2
    refine ⟨rfl, ?_⟩
    rw [dec_strV]
    exact p.here R (.bl _) q
  · exact q.elim
theorem opd_eqS {K : PySem.W.Frag} : OpD K rEq oEqS := fun F hF W H σ ρ v1 v2 d1 d2 QD Q R o1 o2 q p => by
  subst hF
  unfold oEqS at q
  split at q
  · rename_i a b e1 e2
    obtain rfl := o1.str R e1
    obtain rfl := o2.str R e2
    refine ⟨rfl, ?_⟩
    rw [dec_strV]
    exact p.here R (.bl _) q
  · exact q.elim
theorem cm_neS {X : Cx} : Cmp X .NotEq oNeS := ⟨_, op_ne, opd_neS⟩
theorem cm_eqS {X : Cx} : Cmp X .Eq oEqS := ⟨_, op_eq, opd_eqS⟩
/-! ### the readings, one row for each form: what is not known yet stays folded -/
def rdA (o : Option Sl) (j : Nat) (Q : DV → Prop) : Prop := match o with
  | some (.own ds) => Q (.r j ds)
  | _ => False
def rdS (o : Option Sl) (ρ : List Sl) (i : Nat) (Q : DV → Prop) : Prop := match o with
  | some (.sh d) => Q (.k d)
  | some (.own ds) => Q (.r i ds)
  | some (.al j) => rdA ρ[j]? j Q
  | _ => False
def tbD (x : PyData) (Q : Bool → Prop) : Prop := match x with
  | .bool b => Q b
  | _ => False
def ptD (x : PyData) (Q : Option Int → Prop) : Prop := match x with
  | .int i => Q (some i)
  | _ => False
section
variable {Q : DV → Prop} {ρ : List Sl} {xs ys ds : List PyData} {d : PyData} {i j k : Int} {n m : Nat} {s t : Str} {b : Bool}
theorem rd_var : dVar n ρ Q = rdS ρ[n]? ρ n Q := by unfold dVar rdS rdA; rfl
theorem rd_sh : rdS (some (.sh d)) ρ n Q = Q (.k d) := Eq.trans rfl rfl
theorem rd_own : rdS (some (.own ds)) ρ n Q = Q (.r n ds) := Eq.trans rfl rfl
theorem rd_al : rdS (some (.al m)) ρ n Q = rdA ρ[m]? m Q := Eq.trans rfl rfl
theorem rd_alo : rdA (some (.own ds)) m Q = Q (.r m ds) := Eq.trans rfl rfl
theorem dt_k : (DV.k d).data = d := Eq.trans rfl rfl
theorem dt_r : (DV.r n ds).data = .list ds := Eq.trans rfl rfl
theorem dt_f : (DV.f ds).data = .list ds := Eq.trans rfl rfl
theorem dn_k : (DV.k d).norm = .k d := Eq.trans rfl rfl
theorem dn_r : (DV.r n ds).norm = .r n ds := Eq.trans rfl rfl
theorem dn_f : (DV.f ds).norm = .k (.list ds) := Eq.trans rfl rfl
theorem dr_k : (DV.k d).ret = .k d := Eq.trans rfl rfl
theorem dr_r : (DV.r n ds).ret = .f ds := Eq.trans rfl rfl
theorem dr_f : (DV.f ds).ret = .f ds := Eq.trans rfl rfl
theorem dd_k : (DV.k d).toD = some d := Eq.trans rfl rfl
theorem dd_f : (DV.f ds).toD = some (.list ds) := Eq.trans rfl rfl
theorem o_add_i : oAdd (.int i) (.int j) Q = Q (.k (.int (i + j))) := Eq.trans rfl rfl
theorem o_add_s : oAdd (.str s) (.str t) Q = (s.length + t.length ≤ 100000 ∧ Q (.k (.str (s ++ t)))) := Eq.trans rfl rfl
theorem o_add_l : oAdd (.list xs) (.list ys) Q = (xs.length + ys.length ≤ 100000 ∧ Q (.f (xs ++ ys))) := Eq.trans rfl rfl
theorem o_add_t : oAdd (.tuple xs) (.tuple ys) Q = (xs.length + ys.length ≤ 100000 ∧ Q (.k (.tuple (xs ++ ys)))) := Eq.trans rfl rfl
theorem o_mul_i : oMul (.int i) (.int j) Q = (CMul i j ∧ Q (.k (.int (i * j)))) := Eq.trans rfl rfl
theorem o_mul_l : oMul (.list xs) (.int k) Q = (-(2 ^ 63) ≤ k ∧ k < 2 ^ 63 ∧ xs.length * k.toNat ≤ 100000 ∧ Q (.f (List.replicate k.toNat xs).flatten)) := Eq.trans rfl rfl
theorem o_mul_t : oMul (.tuple xs) (.int k) Q = (xs ≠ [] ∧ 1 ≤ k ∧ k ≤ 1000 ∧ xs.length ≤ 1000 ∧ Q (.k (.tuple (List.replicate k.toNat xs).flatten))) := Eq.trans rfl rfl
theorem o_ix_l : oIx (.list ds) (.int i) Q = ∃ d, atI ds i = some d ∧ Q (.k d) := Eq.trans rfl rfl
theorem o_ix_t : oIx (.tuple ds) (.int i) Q = ∃ d, atI ds i = some d ∧ Q (.k d) := Eq.trans rfl rfl
theorem o_sl_l {lo hi : Option Int} : oSl lo hi (.list ds) Q = Q (.f (cutD ds lo hi)) := Eq.trans rfl rfl
theorem o_sl_t {lo hi : Option Int} : oSl lo hi (.tuple ds) Q = Q (.k (.tuple (cutD ds lo hi))) := Eq.trans rfl rfl
theorem o_rev_l : oRev (.list ds) Q = Q (.f ds.reverse) := Eq.trans rfl rfl
theorem o_rev_t : oRev (.tuple ds) Q = Q (.k (.tuple ds.reverse)) := Eq.trans rfl rfl
theorem o_list_l : oList [.list ds] Q = Q (.f ds) := Eq.trans rfl rfl
theorem o_list_t : oList [.tuple ds] Q = Q (.f ds) := Eq.trans rfl rfl
theorem o_tuple_l : oTuple [.list ds] Q = Q (.k (.tuple ds)) := Eq.trans rfl rfl
theorem o_tuple_t : oTuple [.tuple ds] Q = Q (.k (.tuple ds)) := Eq.trans rfl rfl
theorem o_len_l : oLen [.list ds] Q = Q (.k (.int ds.length)) := Eq.trans rfl rfl
theorem o_len_t : oLen [.tuple ds] Q = Q (.k (.int ds.length)) := Eq.trans rfl rfl
theorem o_int_i : oInt [.int i] Q = Q (.k (.int i)) := Eq.trans rfl rfl
theorem o_abs_i : oAbs [.int i] Q = Q (.k (.int (if i < 0 then -i else i))) := Eq.trans rfl rfl
theorem o_lt_i : oLt (.int i) (.int j) Q = Q (.k (.bool (decide (i < j)))) := Eq.trans rfl rfl
theorem o_lt_t : oLt (.tuple xs) (.tuple ys) Q = ∃ ns ms, intsOf xs = some ns ∧ intsOf ys = some ms ∧ Q (.k (.bool (HT.lexLt ns ms))) := Eq.trans rfl rfl
theorem o_in_l : oIn b (.list ds) (.list xs) Q = (shp (.list ds) = true ∧ shp (.list xs) = true ∧ Q (.k (.bool (xor b (xs.any fun z => PyData.eqv z (.list ds)))))) := Eq.trans rfl rfl
theorem o_inl : oIn b d (.list xs) Q = (shp d = true ∧ shp (.list xs) = true ∧ Q (.k (.bool (xor b (xs.any fun z => PyData.eqv z d))))) := Eq.trans rfl rfl
theorem o_int : oIn b d (.tuple xs) Q = (shp d = true ∧ shp (.tuple xs) = true ∧ Q (.k (.bool (xor b (xs.any fun z => PyData.eqv z d))))) := Eq.trans rfl rfl
theorem o_ii {C : Int → Int → Prop} {g : Int → Int → PyData} : oI C g (.int i) (.int j) Q = (C i j ∧ Q (.k (g i j))) := Eq.trans rfl rfl
theorem o_i0 {g : Int → Int → PyData} : oI0 g (.int i) (.int j) Q = Q (.k (g i j)) := Eq.trans rfl rfl
theorem tb_test {t : DT} {Q : Bool → Prop} : dTest t ρ Q = t ρ fun x => tbD x.data Q := Eq.trans rfl rfl
theorem tb_b {Q : Bool → Prop} : tbD (.bool b) Q = Q b := Eq.trans rfl rfl
theorem pt_part {t : DT} {Q : Option Int → Prop} : dPart t ρ Q = t ρ fun x => ptD x.data Q := Eq.trans rfl rfl
theorem pt_i {Q : Option Int → Prop} : ptD (.int i) Q = Q (some i) := Eq.trans rfl rfl
theorem st_k {Q : List Sl → Prop} : dStore n (.k d) ρ Q = (okSet ρ n = true ∧ Q (ρ.set n (.sh d))) := Eq.trans rfl rfl
theorem st_f {Q : List Sl → Prop} : dStore n (.f ds) ρ Q = (okSet ρ n = true ∧ Q (ρ.set n (.own ds))) := Eq.trans rfl rfl
theorem st_r {Q : List Sl → Prop} : dStore n (.r m ds) ρ Q = (okSet ρ n = true ∧ m ≠ n ∧ Q (ρ.set n (.al m))) := Eq.trans rfl rfl
end
theorem e_dRet (t : DT) {DD : DEnds} {ρ : List Sl} : dRet t DD ρ = (t ρ fun dv => DD.rt ρ dv.ret) := Eq.trans rfl rfl
theorem e_dOr (ta tb : DT) {ρ : List Sl} {Q : DV → Prop} : dOr ta tb ρ Q = (ta ρ fun x => tbD x.data fun c => if c = true then Q (.k (.bool true)) else tb ρ Q) := Eq.trans rfl rfl
theorem e_dAnd (ta tb : DT) {ρ : List Sl} {Q : DV → Prop} : dAnd ta tb ρ Q = (ta ρ fun x => tbD x.data fun c => if c = true then tb ρ Q else Q (.k (.bool false))) := Eq.trans rfl rfl
theorem e_dNot (ta : DT) {ρ : List Sl} {Q : DV → Prop} : dNot ta ρ Q = (ta ρ fun x => tbD x.data fun c => Q (.k (.bool (!c)))) := Eq.trans rfl rfl
theorem e_dIf (t : DB) (ta tb : DT) {ρ : List Sl} {Q : DV → Prop} : dIf t ta tb ρ Q = (t ρ fun c => if c = true then ta ρ Q else tb ρ Q) := Eq.trans rfl rfl
theorem e_dAndT (t u : DB) {ρ : List Sl} {Q : Bool → Prop} : dAndT t u ρ Q = (t ρ fun c => if c = true then u ρ Q else Q false) := Eq.trans rfl rfl
theorem e_dOrT (t u : DB) {ρ : List Sl} {Q : Bool → Prop} : dOrT t u ρ Q = (t ρ fun c => if c = true then Q true else u ρ Q) := Eq.trans rfl rfl
theorem e_dNotT (t : DB) {ρ : List Sl} {Q : Bool → Prop} : dNotT t ρ Q = (t ρ fun c => Q (!c)) := Eq.trans rfl rfl
theorem e_dChain (ro ro' : DO2) (ta tb tc : DT) {ρ : List Sl} {Q : DV → Prop} : dChain ro ro' ta tb tc ρ Q = (ta ρ fun x => tb ρ fun y => ro x.data y.data fun z => tbD z.data fun k => if k = true then tc ρ fun w => ro' y.data w.data Q else Q (.k (.bool false))) := Eq.trans rfl rfl
theorem e_dIsi (T : String) (t : DT) {ρ : List Sl} {Q : DV → Prop} : dIsi T t ρ Q = (t ρ fun x => Q (.k (.bool (isT T x.data)))) := Eq.trans rfl rfl
theorem e_dC (d : PyData) {_z0 : List Sl} {Q : DV → Prop} : dC d _z0 Q = (Q (.k d)) := Eq.trans rfl rfl
theorem e_dOp (ro : DO2) (ta tb : DT) {ρ : List Sl} {Q : DV → Prop} : dOp ro ta tb ρ Q = (ta ρ fun x => tb ρ fun y => ro x.data y.data Q) := Eq.trans rfl rfl
theorem e_dUn (ro : DO1) (t : DT) {ρ : List Sl} {Q : DV → Prop} : dUn ro t ρ Q = (t ρ fun x => ro x.data Q) := Eq.trans rfl rfl
theorem e_dTup (ta : DTA) {ρ : List Sl} {Q : DV → Prop} : dTup ta ρ Q = (ta ρ fun xs => ∃ ds, toDs xs = some ds ∧ ds.length ≤ 100000 ∧ Q (.k (.tuple ds))) := Eq.trans rfl rfl
theorem e_dLst (ta : DTA) {ρ : List Sl} {Q : DV → Prop} : dLst ta ρ Q = (ta ρ fun xs => ∃ ds, toDs xs = some ds ∧ ds.length ≤ 100000 ∧ Q (.f ds)) := Eq.trans rfl rfl
theorem e_dCons (t : DT) (ta : DTA) {ρ : List Sl} {Q : List DV → Prop} : dCons t ta ρ Q = (t ρ fun x => ta ρ fun xs => Q (x.norm :: xs)) := Eq.trans rfl rfl
theorem e_dNil {_z0 : List Sl} {Q : List DV → Prop} : dNil  _z0 Q = (Q []) := Eq.trans rfl rfl
theorem e_dCallB (ro : DON) (ta : DTA) {ρ : List Sl} {Q : DV → Prop} : dCallB ro ta ρ Q = (ta ρ fun xs => ro (OpdData xs) Q) := Eq.trans rfl rfl
theorem e_dCall (c : DC) (ta : DTA) {ρ : List Sl} {Q : DV → Prop} : dCall c ta ρ Q = (ta ρ fun xs => ∃ ds, toDs xs = some ds ∧ c ds Q) := Eq.trans rfl rfl
theorem e_dCallP (c : DC) (i : Nat) (ta : DTA) {ρ : List Sl} {Q : DV → Prop} : dCallP c i ta ρ Q = (ρ[i]? = some .pot ∧ ta ρ fun xs => ∃ ds, toDs xs = some ds ∧ c ds Q) := Eq.trans rfl rfl
theorem e_dSl (t : DT) (tl th : DOp) {ρ : List Sl} {Q : DV → Prop} : dSl t tl th ρ Q = (t ρ fun x => tl ρ fun l => th ρ fun u => oSl l u x.data Q) := Eq.trans rfl rfl
theorem e_dSlS (t : DT) (tl th : DOp) {ρ : List Sl} {Q : DV → Prop} : dSlS t tl th ρ Q = (t ρ fun x => tl ρ fun l => th ρ fun u => oSlS l u x.data Q) := Eq.trans rfl rfl
theorem e_oSlS (lo hi : Option Int) {x : PyData} {Q : DV → Prop} : oSlS lo hi x Q = (match x with
  | .dict [(.none, .list ds)] => Q (.f (cutD ds lo hi))
  | _ => False) := Eq.trans rfl rfl
theorem e_dNoPart {_z0 : List Sl} {Q : Option Int → Prop} : dNoPart  _z0 Q = (Q none) := Eq.trans rfl rfl
theorem e_dLc (ti : DIt) (tg : DGt) (tt : DB) (te : DT) (vs : List Nat) {ρ : List Sl} {Q : DV → Prop} : dLc ti tg tt te vs ρ Q = (ti ρ fun ds own => okWipe ρ vs = true ∧ ds.length ≤ 50000 ∧ lcW tg tt te (wipeS ρ vs) ds [] fun rs => Q (.f rs)) := Eq.trans rfl rfl
theorem e_dSet (i : Nat) (t : DT) {DD : DEnds} {ρ : List Sl} : dSet i t DD ρ = (t ρ fun dv => dStore i dv ρ DD.nx) := Eq.trans rfl rfl
theorem e_dIfS (c : DB) (t u : DS) {DD : DEnds} {ρ : List Sl} : dIfS c t u DD ρ = (c ρ fun b => if b = true then t DD ρ else u DD ρ) := Eq.trans rfl rfl
theorem e_dFor (ti : DIt) (tg : DGt) (tb : DS) {DD : DEnds} {ρ : List Sl} : dFor ti tg tb DD ρ = (ti ρ fun ds own => own = false ∧ forW tg tb DD ds ρ) := Eq.trans rfl rfl
theorem e_dAsg (t : DT) (tg : DGt) {DD : DEnds} {ρ : List Sl} : dAsg t tg DD ρ = (t ρ fun dv => ∃ d, dv.toD = some d ∧ tg d ρ DD.nx) := Eq.trans rfl rfl
theorem e_dPar (i j : Nat) (ta tb : DT) {DD : DEnds} {ρ : List Sl} : dPar i j ta tb DD ρ = (ta ρ fun x => tb ρ fun y => (∃ d, y.toD = some d) ∧ dStore i x ρ fun ρ' => dStore j y ρ' DD.nx) := Eq.trans rfl rfl
theorem e_dApp (t te : DT) {DD : DEnds} {ρ : List Sl} : dApp t te DD ρ = (t ρ fun x => match x with
  | .r i ds => te ρ fun y => ∃ d, y.toD = some d ∧ ds.length < 100000 ∧ DD.nx (ρ.set i (.own (ds ++ [d])))
  | .f ds => te ρ fun y => ∃ d, y.toD = some d ∧ ds.length < 100000 ∧ DD.nx ρ
  | .k _ => False) := Eq.trans rfl rfl
theorem e_dSetIx (to ti te : DT) {DD : DEnds} {ρ : List Sl} : dSetIx to ti te DD ρ = (te ρ fun y => ∃ d, y.toD = some d ∧ to ρ fun x => ti ρ fun k => match x, k.data with
  | .r i ds, .int n => ∃ j, ixN ds.length n = some j ∧ DD.nx (ρ.set i (.own (ds.set j d)))
  | _, _ => False) := Eq.trans rfl rfl
theorem e_dDrop (t : DT) {DD : DEnds} {ρ : List Sl} : dDrop t DD ρ = (t ρ fun _ => DD.nx ρ) := Eq.trans rfl rfl
theorem e_dSeq (t u : DS) {DD : DEnds} {ρ : List Sl} : dSeq t u DD ρ = (t { DD with nx := fun ρ' => u DD ρ' } ρ) := Eq.trans rfl rfl
theorem e_dNext {DD : DEnds} {ρ : List Sl} : dNext  DD ρ = (DD.nx ρ) := Eq.trans rfl rfl
theorem e_diSeq (t : DT) {ρ : List Sl} {Q : List PyData → Bool → Prop} : diSeq t ρ Q = (t ρ fun x => match seqOwn x with
  | some (ds, own) => Q ds own
  | none => False) := Eq.trans rfl rfl
theorem e_diRange1 (ta : DTA) {ρ : List Sl} {Q : List PyData → Bool → Prop} : diRange1 ta ρ Q = (ta ρ fun xs => match OpdData xs with
  | [.int n] => -1000000 ≤ n ∧ n ≤ 1000000 ∧ Q (rangeD 0 n) false
  | _ => False) := Eq.trans rfl rfl
theorem e_diRange2 (ta : DTA) {ρ : List Sl} {Q : List PyData → Bool → Prop} : diRange2 ta ρ Q = (ta ρ fun xs => match OpdData xs with
  | [.int m, .int n] => -1000000 ≤ m ∧ m ≤ 1000000 ∧ -1000000 ≤ n ∧ n ≤ 1000000 ∧ Q (rangeD m n) false
  | _ => False) := Eq.trans rfl rfl
theorem e_diZip (ta : DTA) {ρ : List Sl} {Q : List PyData → Bool → Prop} : diZip ta ρ Q = (ta ρ fun xs => ∃ ds, zipOf xs = some ds ∧ Q ds false) := Eq.trans rfl rfl
theorem e_diEnum (ta : DTA) {ρ : List Sl} {Q : List PyData → Bool → Prop} : diEnum ta ρ Q = (ta ρ fun xs => ∃ ds own, enumOf xs = some (ds, own) ∧ Q ds own) := Eq.trans rfl rfl
theorem e_gdName (i : Nat) {d : PyData} {ρ : List Sl} {Q : List Sl → Prop} : gdName i d ρ Q = (okSet ρ i = true ∧ Q (ρ.set i (.sh d))) := Eq.trans rfl rfl
theorem e_gdTup (n : Nat) (t : DGts) {d : PyData} {ρ : List Sl} {Q : List Sl → Prop} : gdTup n t d ρ Q = (match d with
  | .tuple ds => ds.length = n ∧ t ds ρ Q
  | _ => False) := Eq.trans rfl rfl
theorem e_gdCons (t : DGt) (u : DGts) {ds : List PyData} {ρ : List Sl} {Q : List Sl → Prop} : gdCons t u ds ρ Q = (match ds with
  | d :: r => t d ρ fun ρ' => u r ρ' Q
  | [] => False) := Eq.trans rfl rfl
theorem e_gdNil {ds : List PyData} {ρ : List Sl} {Q : List Sl → Prop} : gdNil  ds ρ Q = (match ds with
  | [] => Q ρ
  | _ => False) := Eq.trans rfl rfl
theorem e_dYes {_z0 : List Sl} {Q : Bool → Prop} : dYes  _z0 Q = (Q true) := Eq.trans rfl rfl
theorem e_dPotC (i : Nat) {ρ : List Sl} {Q : DV → Prop} : dPotC i ρ Q = (ρ[i]? = some .pot ∧ ∀ cs : List Int, (∀ n ∈ cs, 0 ≤ n) → cs.length ≤ 17 → Q (.k (.list (cs.map PyData.int)))) := Eq.trans rfl rfl
theorem e_dPotI (i : Nat) {ρ : List Sl} {Q : DV → Prop} : dPotI i ρ Q = (ρ[i]? = some .pot ∧ ∀ v : Int, 0 ≤ v → Q (.k (.int v))) := Eq.trans rfl rfl
theorem e_dPotSet (i : Nat) (te : DT) {DD : DEnds} {ρ : List Sl} : dPotSet i te DD ρ = (te ρ fun y => ρ[i]? = some .pot ∧ ∃ v : Int, y.data = .int v ∧ 0 ≤ v ∧ DD.nx ρ) := Eq.trans rfl rfl
theorem e_dFrz (i : Nat) (t : DS) {DD : DEnds} {ρ : List Sl} : dFrz i t DD ρ = (match ρ[i]? with
  | some (.own ds) => okSet ρ i = true ∧ t DD (ρ.set i (.sh (.list ds)))
  | _ => False) := Eq.trans rfl rfl
end DL

namespace DL
open PySem PySem.Spec PyProof.Rows L2
/-! ### sorted of a list or a tuple -/
section
variable {prog : Program} {w : World} {A : Around} {E : Value → Shared → Prop} {s : Shared}
theorem collect_seqZ {P : List Value → Shared → Prop} (i : Addr) {T : String} {ob : Obj} {xs : Array Value} {k : Nat} (c1 : T = "list" ∨ T = "tuple") (c2 : s.heap.get? i = some ob) (c3 : ob.cls = .type T) (c4 : ob.data = .seq xs k)
    (P1 : ∀ g, (∀ b u, s.heap.get? b = some u → g.get? b = some u) → s.heap.objs.size ≤ g.objs.size → P xs.toList { s with heap := g }) (c5 : xs.size ≤ sizeLine) : wpAny (model prog w) A (collect (.ref i)) P E s := by
  have m1 : (s.heap.push { cls := .type "list", data := .seq ([] : List Value).toArray }).get? s.heap.objs.size = some { cls := .type "list", data := .seq #[] 0 } := Heap.get?_push_size _ rfl
  have m2 := Heap.get?_update_self (Obj.mapSeq (· ++ xs)) m1 rfl
  have last : wpAny (model prog w) A (match Value.ref s.heap.objs.size with
        | Value.ref a => do
          match (← load a).data with
            | Data.seq ys _ => pure ys.toList
            | _ => unsupported "internal:collect"
        | _ => unsupported "internal:collect") P E { s with heap := (s.heap.push { cls := .type "list", data := .seq ([] : List Value).toArray }).update s.heap.objs.size (Obj.mapSeq (· ++ xs)) } := by
    show wpAny _ A (load s.heap.objs.size >>= _) _ _ _
    refine wpAny_bind (wpAny_load m2 (wpAny_pure ?_))
    have z : ((#[] : Array Value) ++ xs).toList = xs.toList := by simp
    show P ((#[] : Array Value) ++ xs).toList _
    rw [z]
    refine P1 _ (fun b u q => (Heap.get?_update_other _ _ (Nat.ne_of_gt (Heap.lt_size q))).trans (Heap.get?_push_of_some _ q)) ?_
    rw [Heap.size_update, size_push']
    exact Nat.le_succ _
  unfold collect
  refine wpAny_bind (wpAny_runValue (codeAny_builtin F.entry_proto_collect ?_))
  rw [Around.under_plainId F.plain_proto_collect _]
  show wpAny _ A.in1 (newList [] >>= fun z => again (.builtin "list.__iadd__" ⟨[z, .ref i], []⟩)) _ _ s
  refine wpAny_bind (wpAny_newObj_type (wpAny_pure ⟨plainId_quiet F.plain_list_iadd _, codeAny_builtin F.entry_list_iadd ?_⟩))
  rw [Around.under_plainId F.plain_list_iadd _]
  refine wpAny_mono (wpAny_extend_seq (hsz := c5) (A := A) (R := fun r s' => r = .ok (.ret (.ref s.heap.objs.size)) ∧ s' = { s with heap := (s.heap.push { cls := .type "list", data := .seq ([] : List Value).toArray }).update s.heap.objs.size (Obj.mapSeq (· ++ xs)) })
    (s := { s with heap := s.heap.push { cls := .type "list", data := .seq ([] : List Value).toArray } }) _ i _ 0 c1 m1 (Heap.get?_push_of_some _ c2) c3 c4 ⟨rfl, rfl⟩) (fun fin s' q => ?_) (fun e s' q => absurd q.1 (by simp))
  cases fin with
  | done f =>
    obtain ⟨z, rfl⟩ := q
    cases z
    exact last
  | again c' =>
    refine ⟨q.1, codeAny_mono q.2 fun r s'' q2 => ?_⟩
    obtain ⟨rfl, rfl⟩ := q2
    exact last
theorem sorted_seq {l : Addr} {T : String} {o : Obj} {its : List Value} {n : Nat} {f : Value → Value → Bool} {Q : Value → Shared → Prop} (O : SrtO.Swo f) (hT : T = "list" ∨ T = "tuple")
    (ho : s.heap.get? l = some o) (hc : o.cls = .type T) (hd : o.data = .seq its.toArray n) (hz : its.length ≤ sizeLine)
    (hS : 2 ≤ its.length → ∀ (g : Heap) (a : Addr), g.get? a = some (seqObj "list" its.toArray 0) → (∀ b u, s.heap.get? b = some u → b ≠ a ∧ g.get? b = some u) → SrtO.SortableO prog w A.in1.in1 { s with heap := g } a its f)
    (h : ∀ (g : Heap) (d : Addr) (out : List Value), SrtO.Srtd f out → SrtO.Stb f out its → (∀ b u, s.heap.get? b = some u → g.get? b = some u) → s.heap.objs.size ≤ d → (∃ m, g.get? d = some (seqObj "list" out.toArray m)) → Q (.ref d) { s with heap := g }) :
    wpAny (model prog w) A (call (.builtin "sorted") [.ref l]) Q E s := by
  refine Calls.call_function_entry kind_sorted plain_sorted entry_sorted (args_sorted1 _) ?_
  unfold Builtin.«sorted»
  refine wpAny_bind (m := checkCount "sorted" 1 1 _) (wpAny_pure ?_)
  refine wpAny_bind (collect_seqZ l hT ho hc hd (fun g1 k1 k2 => ?_) (by rw [List.size_toArray]; exact hz))
  refine wpAny_bind (wpAny_newList ?_ hz)
  have a1 : (g1.push (seqObj "list" its.toArray 0)).get? g1.objs.size = some (seqObj "list" its.toArray 0) := Heap.get?_push_size _ rfl
  have old : ∀ b u, s.heap.get? b = some u → b ≠ g1.objs.size ∧ (g1.push (seqObj "list" its.toArray 0)).get? b = some u := fun b u q =>
    ⟨Nat.ne_of_lt (Heap.lt_size (k1 b u q)), Heap.get?_push_of_some _ (k1 b u q)⟩
  show wpAny _ _ _ _ _ { s with heap := g1.push (seqObj "list" its.toArray 0) }
  refine wpAny_bind (wpAny_holding (wpAny_call_entry slot_list_sort ⟨_, a1, rfl⟩ entry_list_sort (SrtO.list_sort_ord O a1 hz (fun h2 => hS h2 _ _ a1 old) fun out hs hb => ⟨_, rfl, ?_⟩) (args_list_sort _)))
  refine wpAny_pure ⟨_, rfl, h _ _ out hs hb (fun b u q => ?_) ?_ (sortedHeap_at a1)⟩
  · have z := old b u q
    rw [sortedHeap_old z.1 (Heap.lt_size z.2)]
    exact z.2
  · exact k2
end
theorem pair_one {h : Heap} {v : Value} {x y x' y' : Int} (p : Srt.IsPair h v x y) (q : Srt.IsPair h v x' y') : x = x' ∧ y = y' := by
  obtain ⟨a, o, t, u, n, e, ho, hc, hd⟩ := p
  obtain ⟨b, o', t', u', n', e', ho', hc', hd'⟩ := q
  rw [e] at e'
  cases e'
  rw [ho] at ho'
  cases ho'
  rw [hd] at hd'
  simp only [Data.seq.injEq, Array.mk.injEq, List.cons.injEq, Value.int.injEq] at hd'
  exact ⟨hd'.1.1.1, hd'.1.2.1.1⟩
/-- sorted(xs), xs a list or a tuple of pairs of ints -/
def rSortedPD (K : PySem.W.Frag) : List V → Hp → VK → Prop := fun vs H Q => ∃ (a : Addr) (xs : List V) (ps : List (Int × Int)), vs = [.ref a] ∧ (SqL K H a xs ∨ SqT K H a xs) ∧ xs.length = ps.length ∧
  (∀ z ∈ xs.zip ps, ∃ t, z.1 = .ref t ∧ SqT K H t [.int z.2.1, .int z.2.2]) ∧
  ∀ (zs : List (V × (Int × Int))) (p : Addr), zs.Perm (xs.zip ps) → (zs.map (·.2)).Pairwise (fun x y => SrtO.lexB y x = false) → H p = none → Q (.ref p) (upd H p (.lst (zs.map (·.1))))
section
variable {X : Cx}
theorem cr_sortedPD : CallR X (.builtin "sorted") (rSortedPD X.K) := by
  intro pins s σ H vs us Q I r h
  obtain ⟨a, xs, ps, rfl, hs, hl, hx, q⟩ := h
  obtain ⟨u, rfl, ru⟩ := vals1 r
  obtain rfl : u = Value.ref a := ru
  have hseq : ∃ (T : String) (o : Obj) (its : List Value) (n : Nat), (T = "list" ∨ T = "tuple") ∧ s.heap.get? a = some o ∧ o.cls = .type T ∧ o.data = .seq its.toArray n ∧ Vals xs its ∧ xs.length ≤ sizeLine := by
    rcases hs with hs | hs
    · obtain ⟨its, rv, p, hz⟩ := I.list hs
      obtain ⟨o, ho, hc, n, hd⟩ := p.isList
      exact ⟨"list", o, its, n, .inl rfl, ho, hc, hd, rv, hz⟩
    · obtain ⟨its, rv, p, hz⟩ := I.tuple hs
      obtain ⟨o, ho, hc, n, hd⟩ := p
      exact ⟨"tuple", o, its, n, .inr rfl, ho, hc, hd, rv, hz⟩
  obtain ⟨T, o, its, n, hT, ho, hc, hd, rv, hz⟩ := hseq
  have hlen := rv.length
  have pr : ∀ (i : Nat) (v : Value) (p : Int × Int), its[i]? = some v → ps[i]? = some p → Srt.IsPair s.heap v p.1 p.2 := fun i v p e1 e2 => by
    have hi : i < xs.length := by
      have := (List.getElem?_eq_some_iff.mp e2).1
      omega
    obtain ⟨v', ev, rv'⟩ := rv.get (List.getElem?_eq_getElem hi)
    rw [e1] at ev
    cases ev
    obtain ⟨t, e, hS⟩ := hx (xs[i], p) (List.mem_of_getElem? (i := i) (List.getElem?_zip_eq_some.mpr ⟨List.getElem?_eq_getElem hi, e2⟩))
    obtain ⟨its2, r2, ⟨o2, ho2, hc2, n2, hd2⟩, _⟩ := I.tuple hS
    obtain ⟨u1, u2, rfl, ri, rj⟩ := vals2 r2
    obtain ⟨t1, rfl⟩ := ri
    obtain ⟨t2, rfl⟩ := rj
    have e' : xs[i] = .ref t := e
    rw [e'] at rv'
    cases rv'
    exact ⟨t, o2, t1, t2, n2, rfl, ho2, hc2, hd2⟩
  have hxr : ∀ x ∈ xs, ∃ t, x = V.ref t := fun x m => by
    obtain ⟨i, hi, e⟩ := List.getElem_of_mem m
    obtain ⟨t, e2, _⟩ := hx (x, ps[i]'(by omega)) (List.mem_of_getElem? (i := i) (List.getElem?_zip_eq_some.mpr ⟨by rw [List.getElem?_eq_getElem hi, e], List.getElem?_eq_getElem (by omega)⟩))
    exact ⟨t, e2⟩
  obtain ⟨b1, b2⟩ := refs_back rv hxr
  classical
  let k : Value → Int × Int := fun v => if z : ∃ p : Int × Int, Srt.IsPair s.heap v p.1 p.2 then z.choose else (0, 0)
  have kp : ∀ (i : Nat) (v : Value) (p : Int × Int), its[i]? = some v → ps[i]? = some p → k v = p ∧ Srt.IsPair s.heap v (k v).1 (k v).2 := fun i v p e1 e2 => by
    have z : ∃ p : Int × Int, Srt.IsPair s.heap v p.1 p.2 := ⟨p, pr i v p e1 e2⟩
    have ek : k v = z.choose := dif_pos z
    have h1 := z.choose_spec
    rw [← ek] at h1
    have h2 := pair_one h1 (pr i v p e1 e2)
    exact ⟨Prod.ext h2.1 h2.2, h1⟩
  have hp : ∀ v ∈ its, Srt.IsPair s.heap v (k v).1 (k v).2 := fun v hv => by
    obtain ⟨i, hi, e⟩ := List.getElem_of_mem hv
    exact (kp i v (ps[i]'(by omega)) (by rw [List.getElem?_eq_getElem hi, e]) (List.getElem?_eq_getElem (by omega))).2
  have mk : its.map k = ps := by
    refine List.ext_getElem (by rw [List.length_map]; omega) fun i h1 h2 => ?_
    rw [List.getElem_map]
    exact (kp i _ _ (List.getElem?_eq_getElem (by rw [List.length_map] at h1; exact h1)) (List.getElem?_eq_getElem h2)).1
  have zz : xs.zip ps = its.map fun v => (backV v, k v) := by
    rw [b1, ← mk, List.zip_map']
  refine sorted_seq (SrtO.swo_lex k) hT ho hc hd (by omega) (fun h2 g a' ha kk => ?_) fun g d out h1 h2 kq hd2 hn => ?_
  · refine SrtO.pairs_sortableO (s := { s with heap := g }) (by omega) (fun v hm => (hp v hm).keeps fun b u e _ => (kk b u e).2) fun u e => ?_
    have e' : some u = some (seqObj "list" its.toArray 0) := e.symm.trans ha
    cases e'
    intro c
    exact absurd (Value.type.inj c) (by decide)
  · have h3 : ∀ u ∈ out, ∃ a, u = Value.ref a := fun u hu => b2 u (h2.perm.mem_iff.mp hu)
    obtain ⟨m, hm⟩ := hn
    have fin := q (out.map fun v => (backV v, k v)) d (by rw [zz]; exact h2.perm.map _) (by
      rw [List.map_map]
      exact List.pairwise_map.mpr h1) (I.hok.fresh hd2)
    rw [List.map_map] at fin
    refine ⟨.ref d, upd H d (.lst (out.map backV)), I.laid (t' := s.toks) kq hd2 ⟨?_, out, m, vals_back h3, hm⟩, rfl, fin⟩
    rw [List.length_map, h2.perm.length_eq]
    omega
end
/-! ### sorted, over data -/
def pd (p : Int × Int) : PyData := .tuple [.int p.1, .int p.2]
def SrtP (qs : List (Int × Int)) : Prop := qs.Pairwise fun x y => SrtO.lexB y x = false
def sortP (ds : List PyData) (Q : DV → Prop) : Prop := ∃ ps : List (Int × Int), ds = ps.map pd ∧ ∀ qs, qs.Perm ps → SrtP qs → Q (.f (qs.map pd))
def sortI (ds : List PyData) (Q : DV → Prop) : Prop := ∃ ns : List Int, ds = ns.map PyData.int ∧ ∀ ms : List Int, ms.Perm ns → ms.Pairwise (· ≤ ·) → Q (.f (ms.map PyData.int))
def oSorted : DON := fun xs Q => match xs with
  | [.list ds] => sortP ds Q ∨ sortI ds Q
  | [.tuple ds] => sortP ds Q
  | _ => False
def rSortedAll (K : PySem.W.Frag) : List V → Hp → VK → Prop := fun vs H Q => rSortedPD K vs H Q ∨ rSortedI K vs H Q
theorem cr_sortedAll {X : Cx} : CallR X (.builtin "sorted") (rSortedAll X.K) := by
  intro pins s σ H vs us Q I r h
  rcases h with h | h
  · exact cr_sortedPD pins s σ H vs us Q I r h
  · exact cr_sortedI pins s σ H vs us Q I r h
theorem rp_pairs {K : PySem.W.Frag} {W H : Hp} (sm : Same W H) : ∀ {xs : List V} {ps : List (Int × Int)}, RpA K W xs (ps.map pd) → ∀ z ∈ xs.zip ps, Rp K W z.1 (pd z.2) ∧ ∃ t, z.1 = .ref t ∧ SqT K H t [.int z.2.1, .int z.2.2]
  | [], [], _, z, hz => by cases hz
  | x :: xs, p :: ps, h, z, hz => by
    rw [List.map_cons] at h
    cases h with
    | cons h1 h2 =>
      rcases List.mem_cons.mp (by rw [List.zip_cons_cons] at hz; exact hz) with rfl | hz
      · refine ⟨h1, ?_⟩
        have h1' : Rp K W x (.tuple [.int p.1, .int p.2]) := h1
        cases h1' with
        | tup k1 k2 =>
          have e := RpA.of_ints (ns := [p.1, p.2]) k2
          subst e
          exact ⟨_, rfl, sameT sm k1⟩
      · exact rp_pairs sm h2 z hz
  | [], p :: ps, h, z, hz => by cases h
  | x :: xs, [], h, z, hz => by cases h
theorem rpa_zs {K : PySem.W.Frag} {W : Hp} : ∀ zs : List (V × (Int × Int)), (∀ z ∈ zs, Rp K W z.1 (pd z.2)) → RpA K W (zs.map (·.1)) ((zs.map (·.2)).map pd)
  | [], _ => .nil
  | z :: r, h => .cons (h z List.mem_cons_self) (rpa_zs r fun x hx => h x (List.mem_cons_of_mem _ hx))
theorem sort_pairs {F : Fx} {W H : Hp} {σ : L2.St} {ρ : List Sl} {a : Addr} {xs : List V} {ds : List PyData} {QD : DV → Prop} {Q : VK} (R : Rel F W H σ ρ) (hs : SqL F.K H a xs ∨ SqT F.K H a xs) (r : RpA F.K W xs ds) (q : sortP ds QD) (p : Post F W H σ ρ QD Q) : rSortedPD F.K [.ref a] H Q := by
  obtain ⟨ps, rfl, q⟩ := q
  have h := rp_pairs R.sub r
  have hl : xs.length = ps.length := by rw [r.length, List.length_map]
  refine ⟨a, xs, ps, rfl, hs, hl, fun z hz => (h z hz).2, fun zs b hp hsort hn => ?_⟩
  exact p.newL R (rpa_zs zs fun z hz => (h z (hp.mem_iff.mp hz)).1) (q _ (by
    have e := hp.map (·.2)
    have e2 : (xs.zip ps).map (·.2) = ps := List.map_snd_zip (by omega)
    rw [e2] at e
    exact e) hsort) b hn
theorem cd_sorted {K : PySem.W.Frag} : CallD K (rSortedAll K) oSorted := fun F hF W H σ ρ vs ds QD Q R o q p => by
  subst hF
  unfold oSorted at q
  split at q
  · rename_i es e
    obtain ⟨v, dv, rfl, rfl, o, e⟩ := opdA1 o e
    obtain ⟨a, xs, rfl, h1, h2⟩ := o.list R e
    rcases q with q | ⟨ns, rfl, q⟩
    · exact .inl (sort_pairs R (.inl (.inl (.inl h1))) h2 q p)
    · have e2 := RpA.of_ints h2
      subst e2
      exact .inr ⟨a, ns, rfl, .inl (.inl h1), fun ms b hp hs hn => p.newL R (RpA.ints ms) (q ms hp hs) b hn⟩
  · rename_i es e
    obtain ⟨v, dv, rfl, rfl, o, e⟩ := opdA1 o e
    obtain ⟨a, xs, rfl, h1, h2⟩ := o.tup R e
    exact .inl (sort_pairs R (.inr h1) h2 q p)
  · exact q.elim
end DL

namespace DL
open PySem PySem.Spec PyProof.Rows L2
section
variable {X : Cx} {a b : Expr} {ta tb : DT} {pos p p2 pos2 : Pos} {st : Stmt}
/-- a statement that is never reached -/
theorem ds_never : DSt X st (fun _ _ => False) := ⟨fun _ _ _ => False, ⟨fun _ _ _ _ _ _ h => h.elim⟩, fun _ _ _ _ h _ _ _ _ _ _ => h.elim⟩
/-! ### list(range(..)) -/
theorem rpa_rg {K : PySem.W.Frag} {W : Hp} (lo hi : Int) : RpA K W (rgV lo hi) (rangeD lo hi) := by
  have e1 : rgV lo hi = ((List.range (hi - lo).toNat).map fun (i : Nat) => lo + (i : Int)).map V.int := by unfold rgV; rw [List.map_map]; rfl
  have e2 : rangeD lo hi = ((List.range (hi - lo).toNat).map fun (i : Nat) => lo + (i : Int)).map PyData.int := by unfold rangeD; rw [List.map_map]; rfl
  rw [e1, e2]
  exact RpA.ints _
def oLstRg (x y : PyData) (Q : DV → Prop) : Prop := match x, y with
  | .int i, .int j => -1000000 ≤ i ∧ i ≤ 1000000 ∧ -1000000 ≤ j ∧ j ≤ 1000000 ∧ Q (.f (rangeD i j))
  | _, _ => False
theorem rg_ok {i j : Int} (h1 : -1000000 ≤ i) (h2 : i ≤ 1000000) (h3 : -1000000 ≤ j) (h4 : j ≤ 1000000) : RgOk i j := ⟨by omega, by omega, by omega, by omega, by omega⟩
theorem de_listRg2 (hc : X.calm = true) (hg : Gl X "list") (hm : X.mg "list" = none) (hg2 : Gl X "range") (hm2 : X.mg "range" = none) (ha : DE X a ta) (hb : DE X b tb)
    (na : starEach [a, b] X.env = (false, eval a X.env) :: starEach [b] X.env := by rfl) (nb : starEach [b] X.env = (false, eval b X.env) :: starEach [] X.env := by rfl) (hp : (backTo pos2 (starEach [b] X.env)).any (·.1) = false := by rfl)
    (n1 : starEach [.Call (.Name "range" p2) [a, b] [] pos2] X.env = (false, eval (.Call (.Name "range" p2) [a, b] [] pos2) X.env) :: starEach [] X.env := by rfl) :
    DE X (.Call (.Name "list" p) [.Call (.Name "range" p2) [a, b] [] pos2] [] pos) (dOp oLstRg ta tb) := by
  obtain ⟨_, p1, s1⟩ := ha
  obtain ⟨_, q1, s2⟩ := hb
  refine ⟨_, pe_listRg hc hg hm (prg_2 hg2 hm2 p1 q1 na nb hp) n1, fun F hF ρ QD h W H σ R Q k => ?_⟩
  refine s1.use hF h R fun v dv W1 H1 A1 R1 o1 h1 => ?_
  obtain ⟨dw, rfl, h1⟩ := h1
  refine s2.use hF h1 R1 fun v2 dv2 W2 H2 A2 R2 o2 h2 => ?_
  obtain ⟨dw2, rfl, h2⟩ := h2
  unfold oLstRg at h2
  split at h2
  · rename_i i j e1 e2
    have o1' := o1.later A2.ex
    obtain rfl := o1'.int R2 (by rw [DV.norm_data]; exact e1)
    obtain rfl := o2.int R2 (by rw [DV.norm_data]; exact e2)
    obtain ⟨h3, h4, h5, h6, h7⟩ := h2
    exact ⟨i, j, rfl, rfl, rg_ok h3 h4 h5 h6, (k.from (A1.trans A2)).newL R2 (rpa_rg i j) h7⟩
  · exact h2.elim
def oLstRg1 (x : PyData) (Q : DV → Prop) : Prop := match x with
  | .int j => -1000000 ≤ j ∧ j ≤ 1000000 ∧ Q (.f (rangeD 0 j))
  | _ => False
theorem de_listRg1 (hc : X.calm = true) (hg : Gl X "list") (hm : X.mg "list" = none) (hg2 : Gl X "range") (hm2 : X.mg "range" = none) (ha : DE X a ta)
    (na : starEach [a] X.env = (false, eval a X.env) :: starEach [] X.env := by rfl)
    (n1 : starEach [.Call (.Name "range" p2) [a] [] pos2] X.env = (false, eval (.Call (.Name "range" p2) [a] [] pos2) X.env) :: starEach [] X.env := by rfl) :
    DE X (.Call (.Name "list" p) [.Call (.Name "range" p2) [a] [] pos2] [] pos) (dUn oLstRg1 ta) := by
  obtain ⟨_, p1, s1⟩ := ha
  refine ⟨_, pe_listRg hc hg hm (prg_1 hg2 hm2 p1 na) n1, fun F hF ρ QD h W H σ R Q k => ?_⟩
  refine s1.use hF h R fun v dv W1 H1 A1 R1 o1 h1 => ?_
  obtain ⟨dw, rfl, h1⟩ := h1
  unfold oLstRg1 at h1
  split at h1
  · rename_i j e1
    obtain rfl := o1.int R1 (by rw [DV.norm_data]; exact e1)
    obtain ⟨h5, h6, h7⟩ := h1
    exact ⟨j, rfl, rg_ok (by decide) (by decide) h5 h6, (k.from A1).newL R1 (rpa_rg 0 j) h7⟩
  · exact h1.elim
end
end DL

namespace DL
open PySem PySem.Spec PyProof.Rows L2
/-- the frame with an object at D of its own, beside the slots -/
def Fx.at (F : Fx) (D : Addr) (o : HO) : Fx := { F with B := upd F.B D o }
theorem Rel.at {F : Fx} {W H : Hp} {σ : L2.St} {ρ : List Sl} {D : Addr} (R : Rel F W H σ ρ) (o : HO) (wD : W D = none) (nP : ¬ F.P D)
    (no : ∀ (k : Nat) (ds : List PyData), ρ[k]? = some (Sl.own ds) → σ[k]? ≠ some (some (V.ref D)))
    (no2 : ∀ (k : Nat) (fs gs : List PyData) (t b c : Addr), ρ[k]? = some (Sl.own2 fs gs) → σ[k]? = some (some (V.ref t)) → W t = some (.tup [.ref b, .ref c]) → b ≠ D ∧ c ≠ D) : Rel (F.at D o) W (upd H D o) σ ρ where
  adv := ⟨R.adv.ex, fun p u e n => by
      show upd H D o p = some u
      by_cases z : p = D
      · subst z
        have e' : upd F.B p o p = some u := e
        rw [upd_same] at e' ⊢
        exact e'
      · have e' : upd F.B D o p = some u := e
        rw [upd_ne z] at e' ⊢
        exact R.adv.gw p u e' n, fun p e => by
      have e' : upd F.B D o p ≠ none := e
      show upd H D o p ≠ none
      by_cases z : p = D
      · subst z; rw [upd_same]; simp
      · rw [upd_ne z] at e' ⊢
        exact R.adv.th p e', fun p u e => by
      have z : p ≠ D := fun z => by rw [z, wD] at e; cases e
      rcases R.adv.nw p u e with h | h
      · exact .inl h
      · refine .inr ?_
        show upd F.B D o p = none
        rw [upd_ne z]
        exact h⟩
  sub := same_updH R.sub wD
  len := R.len
  sh := R.sh
  own := fun i ds e => by
    obtain ⟨a, xs, h1, h2, h3, h4, h5⟩ := R.own i ds e
    have z : a ≠ D := fun z => no i ds e (by rw [h1, z])
    refine ⟨a, xs, h1, ?_, h3, ?_, h5⟩
    · show upd F.B D o a = none
      rw [upd_ne z]; exact h2
    · rw [upd_ne z]; exact h4
  dis := R.dis
  pot := R.pot
  al := R.al
  pp := fun p hp => by
    have z : p ≠ D := fun z => nP (by rw [← z]; exact hp)
    obtain ⟨h1, h2, h3, h4⟩ := R.pp p hp
    refine ⟨h1, ?_, h3, h4.mono (Same.refl W) fun u e => by rw [upd_ne z]; exact e⟩
    show upd F.B D o p ≠ none
    rw [upd_ne z]; exact h2
  o2 := fun i ds es e => by
    obtain ⟨t, b, c, us, ws, O⟩ := R.o2 i ds es e
    obtain ⟨n1, n2⟩ := no2 i ds es t b c e O.st O.tw
    refine ⟨t, b, c, us, ws, O.st, O.tw, O.ab, ?_, ?_, O.wa, O.wb, by rw [upd_ne n1]; exact O.ha, by rw [upd_ne n2]; exact O.hb, O.ra, O.rb, O.no⟩
    · show upd F.B D o b = none
      rw [upd_ne n1]; exact O.ba
    · show upd F.B D o c = none
      rw [upd_ne n2]; exact O.bb
  o1 := R.o1
theorem Rel.offAt2 {F : Fx} {W H : Hp} {σ : L2.St} {ρ : List Sl} {D : Addr} {o : HO} (R : Rel (F.at D o) W H σ ρ) : ∀ (k : Nat) (fs gs : List PyData) (t b c : Addr), ρ[k]? = some (Sl.own2 fs gs) → σ[k]? = some (some (V.ref t)) → W t = some (.tup [.ref b, .ref c]) → b ≠ D ∧ c ≠ D := fun k fs gs t b c e e2 e3 => by
  obtain ⟨t0, b0, c0, us, ws, O⟩ := R.o2 k fs gs e
  have et := O.st
  rw [e2] at et
  cases et
  have ew := O.tw
  rw [e3] at ew
  cases ew
  have hD : (F.at D o).B D = some o := by show upd F.B D o D = some o; rw [upd_same]
  exact ⟨(fun z => by have := O.ba; rw [z, hD] at this; cases this), (fun z => by have := O.bb; rw [z, hD] at this; cases this)⟩
theorem Rel.new2 {F : Fx} {W H : Hp} {σ : L2.St} {ρ : List Sl} {D : Addr} (R : Rel F W H σ ρ) (hD : H D = none) : ∀ (k : Nat) (fs gs : List PyData) (t b c : Addr), ρ[k]? = some (Sl.own2 fs gs) → σ[k]? = some (some (V.ref t)) → W t = some (.tup [.ref b, .ref c]) → b ≠ D ∧ c ≠ D := fun k fs gs t b c e e2 e3 => by
  obtain ⟨t0, b0, c0, us, ws, O⟩ := R.o2 k fs gs e
  have et := O.st
  rw [e2] at et
  cases et
  have ew := O.tw
  rw [e3] at ew
  cases ew
  exact ⟨(fun z => by have := O.ha; rw [z, hD] at this; cases this), (fun z => by have := O.hb; rw [z, hD] at this; cases this)⟩
theorem Rel.offAt {F : Fx} {W H : Hp} {σ : L2.St} {ρ : List Sl} {D : Addr} {o : HO} (R : Rel (F.at D o) W H σ ρ) : ∀ (k : Nat) (ds : List PyData), ρ[k]? = some (Sl.own ds) → σ[k]? ≠ some (some (V.ref D)) := fun k ds e z => by
  obtain ⟨a, xs, h1, h2, _⟩ := R.own k ds e
  rw [z] at h1
  cases h1
  have h2' : upd F.B D o D = none := h2
  rw [upd_same] at h2'
  cases h2'
theorem Rel.reAt {F : Fx} {W H : Hp} {σ : L2.St} {ρ : List Sl} {D : Addr} {o : HO} (R : Rel (F.at D o) W H σ ρ) (o' : HO) (wD : W D = none) (nP : ¬ F.P D) : Rel (F.at D o') W (upd H D o') σ ρ := by
  have h := R.at o' wD nP R.offAt R.offAt2
  have e : (F.at D o).at D o' = F.at D o' := by
    unfold Fx.at
    congr 1
    funext p
    by_cases z : p = D
    · subst z; show upd (upd F.B p o) p o' p = upd F.B p o' p; rw [upd_same, upd_same]
    · show upd (upd F.B D o) D o' p = upd F.B D o' p; rw [upd_ne z, upd_ne z, upd_ne z]
  rw [e] at h
  exact h
theorem Rel.atHere {F : Fx} {W H : Hp} {σ : L2.St} {ρ : List Sl} {D : Addr} {o : HO} (R : Rel (F.at D o) W H σ ρ) (nP : ¬ F.P D) : H D = some o := R.adv.gw D o (show upd F.B D o D = some o by rw [upd_same]) nP
theorem Rel.atW {F : Fx} {W H : Hp} {σ : L2.St} {ρ : List Sl} {D : Addr} {o : HO} (R : Rel (F.at D o) W H σ ρ) (w0 : F.W0 D = none) : W D = none := by
  cases q : W D with
  | none => rfl
  | some u =>
    rcases R.adv.nw D u q with h | h
    · have h' : F.W0 D = some u := h
      rw [w0] at h'; cases h'
    · have h' : upd F.B D o D = none := h
      rw [upd_same] at h'; cases h'
/-! ### a comprehension with two for -/
def lc2W (tg : DGt) (tt : DB) (ti1 : DIt) (tg1 : DGt) (tt1 : DB) (te : DT) (vs1 : List Nat) (ρ : List Sl) : List PyData → List PyData → (List PyData → Prop) → Prop
  | [], acc, Q => Q acc
  | d :: r, acc, Q => tg d ρ fun ρ' => tt ρ' fun b => if b = true then ti1 ρ' fun es own => own = false ∧ okWipe ρ' vs1 = true ∧ es.length ≤ 200 ∧
      lcW tg1 tt1 te (wipeS ρ' vs1) es acc (fun acc' => lc2W tg tt ti1 tg1 tt1 te vs1 ρ r acc' Q) else lc2W tg tt ti1 tg1 tt1 te vs1 ρ r acc Q
def dLc2 (ti : DIt) (tg : DGt) (tt : DB) (ti1 : DIt) (tg1 : DGt) (tt1 : DB) (te : DT) (vs vs1 : List Nat) : DT := fun ρ Q => ti ρ fun ds own => own = false ∧ okWipe ρ vs = true ∧ ds.length ≤ 200 ∧
  lc2W tg tt ti1 tg1 tt1 te vs1 (wipeS ρ vs) ds [] fun rs => Q (.f rs)
theorem adv_put {F : Fx} {W1 H1 W H : Hp} {D : Addr} {o : HO} (A : Adv F.P W1 H1 W H) (hD : H1 D = none) : Adv F.P W1 H1 W (upd H D o) :=
  ⟨A.ex, fun p u e n => by
    rw [upd_ne (fun z => by rw [z, hD] at e; cases e)]
    exact A.gw p u e n, fun p e => by
    by_cases z : p = D
    · subst z; exact absurd hD e
    · rw [upd_ne z]
      exact A.th p e, A.nw⟩
theorem sem_lc2 {K : PySem.W.Frag} {wi wi1 : TI} {g g1 : TG} {tt tt1 : TT} {te : TE} {ti ti1 : DIt} {tg tg1 : DGt} {is is1 vs vs1 : List Nat} {dt dt1 : DB} {de : DT} (s1 : SemI K wi ti) (s2 : SemG K g tg is) (s3 : SemT K tt dt) (t1 : SemI K wi1 ti1) (t2 : SemG K g1 tg1 is1) (t3 : SemT K tt1 dt1) (s4 : SemE K te de)
    (hv : ∀ i ∈ is, i ∈ vs) (hv1 : ∀ i ∈ is1, i ∈ vs1) : SemE K (tLc2 wi g tt wi1 g1 tt1 te vs vs1) (dLc2 ti tg dt ti1 tg1 dt1 de vs vs1) := fun F hF ρ QD h W H σ R Q p => by
  refine s1 F hF ρ _ h W H σ R _ fun J ds own keep W1 H1 A1 R1 wk k0 k1 q => fun D hD => ?_
  obtain ⟨rfl, ok, hl, q⟩ := q
  obtain rfl := k0 rfl
  have Rw := R1.wipe ok
  have wD : W1 D = none := R1.sub.free hD
  have w0 : F.W0 D = none := by
    cases z : F.W0 D with
    | none => rfl
    | some u => have := R1.adv.ex _ _ z; rw [wD] at this; cases this
  have nPD : ¬ F.P D := fun z => (R1.pp D z).2.2.2.some hD
  have noD : ∀ (k : Nat) (es : List PyData), (wipeS ρ vs)[k]? = some (Sl.own es) → (L2.wipe σ vs)[k]? ≠ some (some (V.ref D)) := fun k es e z => by
    obtain ⟨a, xs, h1, _, _, h4, _⟩ := Rw.own k es e
    rw [z] at h1
    cases h1
    rw [hD] at h4
    cases h4
  have no2 := Rw.new2 hD
  have back : ∀ {W' H' : Hp} {acc : List V}, Adv F.P W1 H1 W' H' → Same W' H' → (∀ p, F.P p → Pot F.K W' H' p) → W' D = none → H' D = some (.lst acc) → Rel (F.at D (.lst acc)) W' H' (L2.wipe σ vs) (wipeS ρ vs) := fun {W' H' acc} A sub po w e => by
    have z := (Rw.step A sub po).at (.lst acc) w nPD noD fun k fs gs t b c e e2 e3 => by
      obtain ⟨t0, b0, c0, us, ws, O⟩ := Rw.o2 k fs gs e
      have et := O.st
      rw [e2] at et
      cases et
      have ew := A.ex _ _ O.tw
      rw [e3] at ew
      cases ew
      exact no2 k fs gs t b c e e2 O.tw
    have e2 : upd H' D (.lst acc) = H' := by
      funext p
      by_cases q : p = D
      · subst q; rw [upd_same, e]
      · rw [upd_ne q]
    rw [e2] at z
    exact z
  refine ⟨fun i m H' => ∃ W' acc ads, m = ds.length - i ∧ i ≤ ds.length ∧ Adv F.P W1 H1 W' H' ∧ Rel (F.at D (.lst acc)) W' H' (L2.wipe σ vs) (wipeS ρ vs) ∧ RpA F.K W' acc ads ∧ acc.length ≤ i * 200 ∧
    lc2W tg dt ti1 tg1 dt1 de vs1 (wipeS ρ vs) (ds.drop i) ads (fun rs => QD (.f rs)), ⟨ds.length, W1, [], [], rfl, Nat.zero_le _, Adv.newF hD, Rw.at _ wD nPD noD (Rw.new2 hD), .nil, Nat.zero_le _, q⟩, ?_⟩
  rintro i m H' ⟨W', acc, ads, rfl, hi, A', R', racc, hal, q'⟩
  have pots : ∀ {W H : Hp} {σ : L2.St} {ρ : List Sl} {o : HO}, Rel (F.at D o) W H σ ρ → ∀ p, F.P p → Pot F.K W H p := fun R p z => (R.pp p z).2.2.2
  by_cases hlt : i < ds.length
  · obtain ⟨g1', g2'⟩ := wk.go i ds[i] W' H' A'.ex R'.sub (fun p hp => nomatch hp) (List.getElem?_eq_getElem hlt)
    rw [List.drop_eq_getElem_cons hlt] at q'
    refine .inr ⟨g1', fun H2 => ∃ W2 acc2 ads2, Adv F.P W1 H1 W2 H2 ∧ Rel (F.at D (.lst acc2)) W2 H2 (L2.wipe σ vs) (wipeS ρ vs) ∧ RpA F.K W2 acc2 ads2 ∧ acc2.length ≤ (i + 1) * 200 ∧
        lc2W tg dt ti1 tg1 dt1 de vs1 (wipeS ρ vs) (ds.drop (i + 1)) ads2 (fun rs => QD (.f rs)),
      fun H2 ⟨W2, acc2, ads2, e1, e2, e3, e4, e5⟩ => ⟨ds.length - (i + 1), by omega, W2, acc2, ads2, rfl, hlt, e1, e2, e3, e4, e5⟩, fun x H2 y => ?_⟩
    obtain ⟨W2, A2, sub2, rx⟩ := g2' x H2 y
    have R2 := R'.step0 A2 sub2
    refine s2 (F.at D (.lst acc)) hF _ _ _ q' W2 H2 _ x R2 rx _ fun σ3 ρ3 R3 w3 q3 => ⟨?_, ?_⟩
    · rw [w3 vs hv]
      exact wipe_wipe
    refine s3 (F.at D (.lst acc)) hF ρ3 _ q3 W2 H2 σ3 R3 _ fun b W3 H3 A3 R4 q4 => ?_
    have A23 : Adv F.P W' H' W3 H3 := (A2.mono fun _ z => z.elim).trans A3
    cases b with
    | false =>
      refine iteF ?_
      have AA := A'.trans A23
      exact ⟨W3, acc, ads, AA, back AA R4.sub (pots R4) (R4.atW w0) (R4.atHere nPD), racc.mono A23.ex, by omega, q4⟩
    | true =>
      refine iteT (t1 (F.at D (.lst acc)) hF ρ3 _ q4 W3 H3 σ3 R4 _ fun J1 es own1 keep1 W4 H4 A4 R5 wk1 k01 k11 q5 => ?_)
      obtain ⟨rfl, ok1, hl1, q5⟩ := q5
      obtain rfl := k01 rfl
      have A24 : Adv F.P W' H' W4 H4 := A23.trans A4
      have Ri := R5.wipe ok1
      refine ⟨fun j k H5 => ∃ W5 acc2 ads2, k = es.length - j ∧ j ≤ es.length ∧ Same W4 W5 ∧ Adv F.P W1 H1 W5 H5 ∧ Rel (F.at D (.lst acc2)) W5 H5 (L2.wipe σ3 vs1) (wipeS ρ3 vs1) ∧ RpA F.K W5 acc2 ads2 ∧ acc2.length ≤ i * 200 + j ∧
        lcW tg1 dt1 de (wipeS ρ3 vs1) (es.drop j) ads2 (fun acc' => lc2W tg dt ti1 tg1 dt1 de vs1 (wipeS ρ vs) (ds.drop (i + 1)) acc' (fun rs => QD (.f rs))),
        ⟨es.length, W4, acc, ads, rfl, Nat.zero_le _, Same.refl W4, A'.trans A24, Ri, racc.mono A24.ex, hal, q5⟩, ?_⟩
      rintro j k H5 ⟨W5, acc2, ads2, rfl, hj, sm5, A5, R6, racc2, hal2, q6⟩
      by_cases hjl : j < es.length
      · obtain ⟨f1, f2⟩ := wk1.go j es[j] W5 H5 sm5 R6.sub (fun p hp => nomatch hp) (List.getElem?_eq_getElem hjl)
        rw [List.drop_eq_getElem_cons hjl] at q6
        refine .inr ⟨f1, fun H6 => ∃ W6 acc3 ads3, Same W4 W6 ∧ Adv F.P W1 H1 W6 H6 ∧ Rel (F.at D (.lst acc3)) W6 H6 (L2.wipe σ3 vs1) (wipeS ρ3 vs1) ∧ RpA F.K W6 acc3 ads3 ∧ acc3.length ≤ i * 200 + (j + 1) ∧
            lcW tg1 dt1 de (wipeS ρ3 vs1) (es.drop (j + 1)) ads3 (fun acc' => lc2W tg dt ti1 tg1 dt1 de vs1 (wipeS ρ vs) (ds.drop (i + 1)) acc' (fun rs => QD (.f rs))),
          fun H6 ⟨W6, acc3, ads3, e1, e2, e3, e4, e5, e6⟩ => ⟨es.length - (j + 1), by omega, W6, acc3, ads3, rfl, hjl, e1, e2, e3, e4, e5, e6⟩, fun x2 H6 y2 => ?_⟩
        obtain ⟨W6, A6, sub6, rx6⟩ := f2 x2 H6 y2
        have R7 := R6.step0 A6 sub6
        refine t2 (F.at D (.lst acc2)) hF _ _ _ q6 W6 H6 _ x2 R7 rx6 _ fun σ7 ρ7 R8 w8 q8 => ⟨?_, ?_⟩
        · rw [w8 vs1 hv1]
          exact wipe_wipe
        refine t3 (F.at D (.lst acc2)) hF ρ7 _ q8 W6 H6 σ7 R8 _ fun b W7 H7 A7 R9 q9 => ?_
        have A57 : Adv F.P W5 H5 W7 H7 := (A6.mono fun _ z => z.elim).trans A7
        cases b with
        | false =>
          refine iteF ?_
          exact ⟨W7, acc2, ads2, sm5.trans A57.ex, A5.trans A57, R6.step A57 R9.sub (pots R9), racc2.mono A57.ex, by omega, q9⟩
        | true =>
          refine iteT (s4 (F.at D (.lst acc2)) hF ρ7 _ q9 W7 H7 σ7 R9 _ fun v dv W8 H8 A8 R10 o q10 => ?_)
          obtain ⟨z, e, q10⟩ := q10
          obtain ⟨W9, A9, R11, rz, sm⟩ := VR.known R9 A8 R10 o e
          have A59 : Adv F.P W5 H5 W9 H8 := A57.trans A9
          have R12 := R6.step A59 R11.sub (pots R11)
          refine ⟨acc2, R12.atHere nPD, ?_, W9, acc2 ++ [v], ads2 ++ [z], sm5.trans A59.ex, adv_put (A5.trans A59) hD, R12.reAt _ (R12.atW w0) nPD, (racc2.mono A59.ex).append (.cons rz .nil), ?_, q10⟩
          · have : i * 200 ≤ 200 * 200 := Nat.mul_le_mul_right _ (by omega)
            exact Nat.lt_of_lt_of_le (by omega : acc2.length < 100000) (by decide)
          · rw [List.length_append, List.length_singleton]
            omega
      · have e : j = es.length := by omega
        subst e
        rw [List.drop_length] at q6
        refine .inl ⟨wk1.stop _ W5 H5 sm5 R6.sub (fun p hp => nomatch hp) (Nat.le_refl _), W5, acc2, ads2, A5, back A5 R6.sub (pots R6) (R6.atW w0) (R6.atHere nPD), racc2, by omega, q6⟩
  · have e : i = ds.length := by omega
    subst e
    rw [List.drop_length] at q'
    refine .inl ⟨wk.stop _ W' H' A'.ex R'.sub (fun p hp => nomatch hp) (Nat.le_refl _), ?_⟩
    exact p (.ref D) (.f ads) W' H' (A1.trans A') (R1.step A' R'.sub (pots R')) ⟨D, acc, rfl, A1.back hD, R'.atW w0, R'.atHere nPD, racc⟩ q'
section
variable {X : Cx}
theorem de_lc2 {elt tg tg1 iter iter1 : Expr} {ifs ifs1 : List Expr} {scope : Scope} {own : List (Str × Nat)} {vs1 : List Nat} {ti ti1 : DIt} {g g1 : DGt} {is is1 : List Nat} {tt tt1 : DB} {te : DT} {pos : Pos} (hc : X.calm = true) (hN : X.N.Nodup) (hi : DI X tg iter ti) (ok : BlkOk X.N X.env.scope scope own)
    (hg : ∀ (s : Shared) (H : Hp) (C : Addr) (cl : List (Str × Addr)) (fp : List Addr), DG (X.blk s H scope (compEnvC scope cl C X.env) fp) tg g is)
    (ht : ∀ (s : Shared) (H : Hp) (C : Addr) (cl : List (Str × Addr)) (fp : List Addr), PTs (X.blk s H scope (compEnvC scope cl C X.env) fp) ifs (canonT X.K tt))
    (hi1 : ∀ (s : Shared) (H : Hp) (C : Addr) (cl : List (Str × Addr)) (fp : List Addr), DI (X.blk s H scope (compEnvC scope cl C X.env) fp) tg1 iter1 ti1)
    (hg1 : ∀ (s : Shared) (H : Hp) (C : Addr) (cl : List (Str × Addr)) (fp : List Addr), DG (X.blk s H scope (compEnvC scope cl C X.env) fp) tg1 g1 is1)
    (ht1 : ∀ (s : Shared) (H : Hp) (C : Addr) (cl : List (Str × Addr)) (fp : List Addr), PTs (X.blk s H scope (compEnvC scope cl C X.env) fp) ifs1 (canonT X.K tt1))
    (he : ∀ (s : Shared) (H : Hp) (C : Addr) (cl : List (Str × Addr)) (fp : List Addr), DE (X.blk s H scope (compEnvC scope cl C X.env) fp) elt te)
    (hv : ∀ i ∈ is, i ∈ own.map (·.2)) (hv1 : ∀ i ∈ is1, i ∈ vs1) (hvo : ∀ i ∈ vs1, i ∈ own.map (·.2)) (hs : ∀ x, foldedSetIterable iter X.env x = pure x := by intro _; rfl) (hs1 : ∀ env x, foldedSetIterable iter1 env x = pure x := by intro _ _; rfl) :
    DE X (.ListComp elt [⟨tg, iter, ifs, 0⟩, ⟨tg1, iter1, ifs1, 0⟩] scope pos) (dLc2 ti g tt ti1 g1 tt1 te (own.map (·.2)) vs1) :=
  ⟨_, pe_lc2 (wi := canonI X.K ti) (g := canonG X.K g is) (tt := canonT X.K tt) (wi1 := canonI X.K ti1) (g1 := canonG X.K g1 is1) (tt1 := canonT X.K tt1) (te := canonE X.K te) hc hN hi.canon ok hvo (fun s H C cl fp => (hg s H C cl fp).canon) ht
      (fun s H C cl fp => (hi1 s H C cl fp).canon) (fun s H C cl fp => (hg1 s H C cl fp).canon) ht1 (fun s H C cl fp => (he s H C cl fp).canon) hs hs1,
    sem_lc2 (fun F hF ρ QI h W H σ R R' q => ⟨F, ρ, QI, W, hF, h, R, q⟩) (fun F hF d ρ QG h W H σ v R r Q q => ⟨F, ρ, QG, W, d, hF, h, R, r, q⟩) sem_canonT
      (fun F hF ρ QI h W H σ R R' q => ⟨F, ρ, QI, W, hF, h, R, q⟩) (fun F hF d ρ QG h W H σ v R r Q q => ⟨F, ρ, QG, W, d, hF, h, R, r, q⟩) sem_canonT sem_canonE hv hv1⟩
end
theorem lc2W_flat {tg tg1 : DGt} {tt tt1 : DB} {ti1 : DIt} {te : DT} {vs1 : List Nat} {ρ : List Sl} (h : PyData → List PyData) {Q : List PyData → Prop} : ∀ {ds acc : List PyData},
    (∀ d ∈ ds, ∀ (acc : List PyData) (N : List PyData → Prop), N (acc ++ h d) → tg d ρ fun ρ' => tt ρ' fun b => if b = true then ti1 ρ' fun es own => own = false ∧ okWipe ρ' vs1 = true ∧ es.length ≤ 200 ∧ lcW tg1 tt1 te (wipeS ρ' vs1) es acc N else N acc) →
    Q (acc ++ ds.flatMap h) → lc2W tg tt ti1 tg1 tt1 te vs1 ρ ds acc Q
  | [], acc, _, q => by
    rw [List.flatMap_nil, List.append_nil] at q
    exact q
  | d :: r, acc, hs, q => by
    refine hs d List.mem_cons_self acc _ ?_
    refine lc2W_flat h (fun x hx => hs x (List.mem_cons_of_mem _ hx)) ?_
    rw [List.flatMap_cons, ← List.append_assoc] at q
    exact q
theorem lcW_mapA {tg : DGt} {te : DT} {ρ : List Sl} (g : PyData → PyData) {Q : List PyData → Prop} {ds acc : List PyData}
    (h : ∀ d ∈ ds, ∀ N : DV → Prop, N (.k (g d)) → tg d ρ fun ρ' => te ρ' N) (q : Q (acc ++ ds.map g)) : lcW tg dYes te ρ ds acc Q := by
  refine lcW_fm (fun d => some (g d)) (fun d hd N hN => h d hd _ ⟨g d, rfl, hN⟩) ?_
  rw [List.filterMap_eq_map']
  exact q
theorem e_dLc2 (ti : DIt) (tg : DGt) (tt : DB) (ti1 : DIt) (tg1 : DGt) (tt1 : DB) (te : DT) (vs vs1 : List Nat) {ρ : List Sl} {Q : DV → Prop} : dLc2 ti tg tt ti1 tg1 tt1 te vs vs1 ρ Q = (ti ρ fun ds own => own = false ∧ okWipe ρ vs = true ∧ ds.length ≤ 200 ∧
  lc2W tg tt ti1 tg1 tt1 te vs1 (wipeS ρ vs) ds [] fun rs => Q (.f rs)) := Eq.trans rfl rfl
end DL

namespace K02
open PySem PySem.Spec PyProof.Rows L2 DL
def topS (i : Nat) : Stmt := PySem.Challenge.pw_metnumbers_k02_parties_recognized.main.body.getD i (.Pass ⟨0, 0, 0, 0⟩)
abbrev s_is_integer : Stmt := topS 1
theorem sc_is_integer : FnScope ["thing"] ["thing"] (defScope s_is_integer) := ⟨rfl, rfl, rfl, by decide +kernel, rfl, by decide +kernel, by decide +kernel⟩
abbrev s_can_be_told : Stmt := topS 5
theorem sc_can_be_told : FnScope ["thing"] ["thing"] (defScope s_can_be_told) := ⟨rfl, rfl, rfl, by decide +kernel, rfl, by decide +kernel, by decide +kernel⟩
abbrev s_are_numbers : Stmt := topS 6
theorem sc_are_numbers : FnScope ["thing", "number"] ["thing"] (defScope s_are_numbers) := ⟨rfl, rfl, rfl, by decide +kernel, rfl, by decide +kernel, by decide +kernel⟩
abbrev s_is_person : Stmt := topS 7
theorem sc_is_person : FnScope ["thing", "many"] ["thing", "many"] (defScope s_is_person) := ⟨rfl, rfl, rfl, by decide +kernel, rfl, by decide +kernel, by decide +kernel⟩
abbrev s_is_pair : Stmt := topS 8
theorem sc_is_pair : FnScope ["thing", "many", "one", "other"] ["thing", "many"] (defScope s_is_pair) := ⟨rfl, rfl, rfl, by decide +kernel, rfl, by decide +kernel, by decide +kernel⟩
abbrev s_are_pairs : Stmt := topS 9
theorem sc_are_pairs : FnScope ["thing", "many", "pair", "one", "other"] ["thing", "many"] (defScope s_are_pairs) := ⟨rfl, rfl, rfl, by decide +kernel, rfl, by decide +kernel, by decide +kernel⟩
abbrev s_is_party : Stmt := topS 10
theorem sc_is_party : FnScope ["thing", "numbers", "met", "apart", "pair"] ["thing"] (defScope s_is_party) := ⟨rfl, rfl, rfl, by decide +kernel, rfl, by decide +kernel, by decide +kernel⟩
abbrev s__law_kneaded : Stmt := topS 12
theorem sc__law_kneaded : FnScope ["seed", "lap", "prime", "amount", "again"] ["seed", "lap"] (defScope s__law_kneaded) := ⟨rfl, rfl, rfl, by decide +kernel, rfl, by decide +kernel, by decide +kernel⟩
abbrev s__law_pot_of : Stmt := topS 13
theorem sc__law_pot_of : FnScope ["script", "cells", "place", "cell"] ["script"] (defScope s__law_pot_of) := ⟨rfl, rfl, rfl, by decide +kernel, rfl, by decide +kernel, by decide +kernel⟩
abbrev s__law_below : Stmt := topS 14
theorem sc__law_below : FnScope ["pot", "bound", "cells", "place", "amount", "found"] ["pot", "bound"] (defScope s__law_below) := ⟨rfl, rfl, rfl, by decide +kernel, rfl, by decide +kernel, by decide +kernel⟩
abbrev s__law_pick : Stmt := topS 15
theorem sc__law_pick : FnScope ["pot", "items"] ["pot", "items"] (defScope s__law_pick) := ⟨rfl, rfl, rfl, by decide +kernel, rfl, by decide +kernel, by decide +kernel⟩
abbrev s__law_pairs : Stmt := topS 16
theorem sc__law_pairs : FnScope ["many", "found", "one", "other"] ["many"] (defScope s__law_pairs) := ⟨rfl, rfl, rfl, by decide +kernel, rfl, by decide +kernel, by decide +kernel⟩
abbrev s__law_some_party : Stmt := topS 17
theorem sc__law_some_party : FnScope ["pot", "most", "many", "pairs", "chosen", "numbers", "person", "met", "apart", "pair", "choice", "some"] ["pot", "most"] (defScope s__law_some_party) := ⟨rfl, rfl, rfl, by decide +kernel, rfl, by decide +kernel, by decide +kernel⟩
abbrev s__law_number : Stmt := topS 18
theorem sc__law_number : FnScope ["thing", "start", "most"] ["thing", "start", "most"] (defScope s__law_number) := ⟨rfl, rfl, rfl, by decide +kernel, rfl, by decide +kernel, by decide +kernel⟩
abbrev s__law_is_pair : Stmt := topS 19
theorem sc__law_is_pair : FnScope ["thing", "many"] ["thing", "many"] (defScope s__law_is_pair) := ⟨rfl, rfl, rfl, by decide +kernel, rfl, by decide +kernel, by decide +kernel⟩
abbrev s__law_is_row : Stmt := topS 20
theorem sc__law_is_row : FnScope ["thing", "many", "pair", "one", "other"] ["thing", "many"] (defScope s__law_is_row) := ⟨rfl, rfl, rfl, by decide +kernel, rfl, by decide +kernel, by decide +kernel⟩
abbrev s__law_is_party : Stmt := topS 21
theorem sc__law_is_party : FnScope ["thing", "number", "pair"] ["thing"] (defScope s__law_is_party) := ⟨rfl, rfl, rfl, by decide +kernel, rfl, by decide +kernel, by decide +kernel⟩
abbrev s__law_muddled : Stmt := topS 22
theorem sc__law_muddled : FnScope ["pot", "row", "odd", "at", "more"] ["pot", "row", "odd"] (defScope s__law_muddled) := ⟨rfl, rfl, rfl, by decide +kernel, rfl, by decide +kernel, by decide +kernel⟩
abbrev s__law_spoilt : Stmt := topS 23
theorem sc__law_spoilt : FnScope ["pot", "party", "numbers", "met", "apart", "choice", "many", "odd", "pair", "row"] ["pot", "party"] (defScope s__law_spoilt) := ⟨rfl, rfl, rfl, by decide +kernel, rfl, by decide +kernel, by decide +kernel⟩
abbrev s_law : Stmt := topS 24
theorem sc_law : FnScope ["script", "pot", "turn", "party", "first", "second", "odd", "some", "thing", "before"] ["script"] (defScope s_law) := ⟨rfl, rfl, rfl, by decide +kernel, rfl, by decide +kernel, by decide +kernel⟩
structure Txt (K : PySem.W.Frag) (mg : Str → Option Value) : Prop where
  m_isinstance : mg "isinstance" = none
  m_int : mg "int" = none
  m_bool : mg "bool" = none
  m_tuple : mg "tuple" = none
  m_len : mg "len" = none
  m_list : mg "list" = none
  m_abs : mg "abs" = none
  m_range : mg "range" = none
  m_zip : mg "zip" = none
  m_enumerate : mg "enumerate" = none
  m_all : mg "all" = none
  m_any : mg "any" = none
  m_repr : mg "repr" = none
  m_MOST_PERSONS : ∃ t, mg "MOST_PERSONS" = some (.int 8 t)
  m_GREATEST_NUMBER : ∃ t, mg "GREATEST_NUMBER" = some (.int 20 t)
  d_is_integer : Def K mg "is_integer" s_is_integer ["thing"]
  d_can_be_told : Def K mg "can_be_told" s_can_be_told ["thing"]
  d_are_numbers : Def K mg "are_numbers" s_are_numbers ["thing"]
  d_is_person : Def K mg "is_person" s_is_person ["thing", "many"]
  d_is_pair : Def K mg "is_pair" s_is_pair ["thing", "many"]
  d_are_pairs : Def K mg "are_pairs" s_are_pairs ["thing", "many"]
  d_is_party : Def K mg "is_party" s_is_party ["thing"]
  d__law_kneaded : Def K mg "_law_kneaded" s__law_kneaded ["seed", "lap"]
  d__law_pot_of : Def K mg "_law_pot_of" s__law_pot_of ["script"]
  d__law_below : Def K mg "_law_below" s__law_below ["pot", "bound"]
  d__law_pick : Def K mg "_law_pick" s__law_pick ["pot", "items"]
  d__law_pairs : Def K mg "_law_pairs" s__law_pairs ["many"]
  d__law_some_party : Def K mg "_law_some_party" s__law_some_party ["pot", "most"]
  d__law_number : Def K mg "_law_number" s__law_number ["thing", "start", "most"]
  d__law_is_pair : Def K mg "_law_is_pair" s__law_is_pair ["thing", "many"]
  d__law_is_row : Def K mg "_law_is_row" s__law_is_row ["thing", "many"]
  d__law_is_party : Def K mg "_law_is_party" s__law_is_party ["thing"]
  d__law_muddled : Def K mg "_law_muddled" s__law_muddled ["pot", "row", "odd"]
  d__law_spoilt : Def K mg "_law_spoilt" s__law_spoilt ["pot", "party"]
  d_law : Def K mg "law" s_law ["script"]
/-! ### what the functions say -/
def isIntD : PyData → Bool
  | .int _ => true
  | _ => false
def numOk : PyData → Bool
  | .none => true
  | .int i => decide (0 ≤ i) && decide (i ≤ 20)
  | _ => false
def numbersOk : PyData → Bool
  | .tuple ds => decide (1 ≤ ds.length) && decide (ds.length ≤ 8) && ds.all numOk
  | _ => false
def personOk (m : Int) : PyData → Bool
  | .int i => decide (0 ≤ i) && decide (i < m)
  | _ => false
theorem personOk_int {m : Int} {x : PyData} (h : personOk m x = true) : ∃ i, x = .int i ∧ 0 ≤ i ∧ i < m := by
  cases x with
  | int i =>
    simp only [personOk, Bool.and_eq_true, decide_eq_true_eq] at h
    exact ⟨i, rfl, h.1, h.2⟩
  | _ => cases h
def ltI : PyData → PyData → Bool
  | .int i, .int j => decide (i < j)
  | _, _ => false
def pairOk (m : Int) : PyData → Bool
  | .tuple [a, b] => personOk m a && (personOk m b && ltI a b)
  | _ => false
theorem pairOk_ints {m : Int} {x : PyData} (h : pairOk m x = true) : ∃ a b, x = .tuple [.int a, .int b] := by
  unfold pairOk at h
  split at h
  · rename_i a b
    simp only [Bool.and_eq_true] at h
    obtain ⟨i, rfl, _⟩ := personOk_int h.1
    obtain ⟨j, rfl, _⟩ := personOk_int h.2.1
    exact ⟨i, j, rfl⟩
  · cases h
theorem pairOk_len {m : Int} {ds : List PyData} (h : ds.length ≠ 2) : pairOk m (.tuple ds) = false := by
  match ds, h with
  | [], _ => rfl
  | [_], _ => rfl
  | [_, _], h => exact absurd rfl h
  | _ :: _ :: _ :: _, _ => rfl
def ltD : PyData → PyData → Bool
  | .tuple xs, .tuple ys => (match intsOf xs, intsOf ys with | some ns, some ms => HT.lexLt ns ms | _, _ => false)
  | _, _ => false
def ascD : List PyData → Bool
  | x :: y :: r => ltD x y && ascD (y :: r)
  | _ => true
def lt2 : PyData → Bool
  | .tuple [x, y] => ltD x y
  | _ => false
theorem asc_zip : ∀ ds : List PyData, ((zipD ds (ds.drop 1)).map lt2).all id = ascD ds
  | [] => rfl
  | [_] => rfl
  | x :: y :: r => by
    have ih := asc_zip (y :: r)
    unfold zipD at ih ⊢
    rw [List.drop_succ_cons, List.drop_zero] at ih
    rw [List.drop_succ_cons, List.drop_zero, List.zip_cons_cons, List.map_cons, List.map_cons, List.all_cons, ih]
    rfl
def pairsOk (m : Int) : PyData → Bool
  | .tuple ds => ds.all (pairOk m) && ascD ds
  | _ => false
def lenD : PyData → Int
  | .tuple ds => ds.length
  | _ => 0
def itemsD : PyData → List PyData
  | .tuple ds => ds
  | _ => []
def clash (a b : PyData) : Bool := (itemsD b).any fun p => (itemsD a).any fun q => PyData.eqv q p
def partyOk : PyData → Bool
  | .tuple [n, a, b] => numbersOk n && (pairsOk (lenD n) a && (pairsOk (lenD n) b && !clash a b))
  | _ => false
theorem partyOk_len {ds : List PyData} (h : ds.length ≠ 3) : partyOk (.tuple ds) = false := by
  match ds, h with
  | [], _ => rfl
  | [_], _ => rfl
  | [_, _], _ => rfl
  | [_, _, _], h => exact absurd rfl h
  | _ :: _ :: _ :: _ :: _, _ => rfl
theorem numbersOk_tup {n : PyData} (h : numbersOk n = true) : ∃ ns, n = .tuple ns ∧ 1 ≤ ns.length ∧ ns.length ≤ 8 ∧ ∀ d ∈ ns, numOk d = true := by
  unfold numbersOk at h
  split at h
  · simp only [Bool.and_eq_true, decide_eq_true_eq, List.all_eq_true] at h
    exact ⟨_, rfl, h.1.1, h.1.2, h.2⟩
  · cases h
theorem pairsOk_tup {m : Int} {a : PyData} (h : pairsOk m a = true) : ∃ ps, a = .tuple ps ∧ (∀ d ∈ ps, pairOk m d = true) ∧ ascD ps = true := by
  unfold pairsOk at h
  split at h
  · simp only [Bool.and_eq_true, List.all_eq_true] at h
    exact ⟨_, rfl, h.1, h.2⟩
  · cases h
theorem pairOk_low {m : Int} {d : PyData} (h : pairOk m d = true) : lowD 1 d = true := by
  obtain ⟨a, b, rfl⟩ := pairOk_ints h
  exact lowD_tup (n := 0) fun d hd => by
    rcases List.mem_cons.mp hd with rfl | hd
    · exact lowD_int a
    · rw [List.mem_singleton.mp hd]; exact lowD_int b
theorem pairsOk_low {m : Int} {ps : List PyData} (h : ∀ d ∈ ps, pairOk m d = true) : lowD 2 (.tuple ps) = true := lowD_tup fun d hd => pairOk_low (h d hd)
/-- the rows of a thing have at most 1,000 items -/
def rowLen : PyData → Bool
  | .tuple es => decide (es.length ≤ 1000)
  | _ => true
def smallD : PyData → Bool
  | .tuple ds => ds.all rowLen
  | _ => true
theorem rowLen_le {x : PyData} (h : rowLen x = true) : ∀ ds, x = .tuple ds → ds.length ≤ 50000 := by
  rintro ds rfl
  simp only [rowLen, decide_eq_true_eq] at h
  omega
section
variable {P : Program} {w : World} {K : PySem.W.Frag} {mg : Str → Option Value} {base : Heap}

def c_is_integer : DC := fun xs Q => ∃ x, xs = [x] ∧ Q (.k (.bool (isIntD x)))
theorem ok_is_integer (T : Txt K mg) : OkD P w K mg base "is_integer" s_is_integer ["thing"] 1 c_is_integer := by
  refine okD T.d_is_integer sc_is_integer (fun xs QD ⟨x, e, _⟩ => by rw [e]; rfl) (by decide) fun f cdv A outer s H E hg hr => ⟨_, (ds_one (ds_ret (de_and (de_isi (T := "int") (de_var 0) rfl T.m_isinstance (by decide +kernel) rfl T.m_int (by decide +kernel) kit_intT) (de_one (de_not (de_isi (T := "bool") (de_var 0) rfl T.m_isinstance (by decide +kernel) rfl T.m_bool (by decide +kernel) kit_boolT)))))), fun xs QD ⟨x, e, q⟩ => ?_⟩
  subst e
  show dRet _ _ [.sh x]
  simp only [dRet, dAnd, dOr, dNot, dIf, dAndT, dOrT, dNotT, dTest, dChain, dIsi, dVar, dC, dOp, dUn, dTup, dLst, dCons, dNil, dCallB, dCall, dCallP, dSl, dSlS, dPart, dNoPart, dLc, dSet, dIfS, dFor, dAsg, dPar, dApp, dSetIx, dDrop, dSeq, dNext, dStore, diSeq, diRange1, diRange2, diZip, gdName, gdTup, gdCons, gdNil, dYes, oI, oI0, oLe, oGt, oGe, OpdData, toDs, isT_int, isT_bool, isT_tuple, isT_str, List.map_cons, List.map_nil, List.getElem?_cons_zero, List.getElem?_cons_succ, List.set_cons_zero, List.set_cons_succ]
  cases x <;> exact q
def c_can_be_told : DC := fun xs Q => ∃ x, xs = [x] ∧ Q (.k (.bool (numOk x)))
theorem ok_can_be_told (T : Txt K mg) (G_is_integer : OkD P w K mg base "is_integer" s_is_integer ["thing"] 1 c_is_integer) : OkD P w K mg base "can_be_told" s_can_be_told ["thing"] 2 c_can_be_told := by
  refine okD T.d_can_be_told sc_can_be_told (fun xs QD ⟨x, e, _⟩ => by rw [e]; rfl) (by decide) fun f cdv A outer s H E hg hr => ⟨_, (ds_one (ds_ret (de_or (de_cmp cm_isN (de_var 0) de_non) (de_one (de_and (de_fn G_is_integer hg (hr.mono (by decide)) (da_cons (de_var 0) da_nil)) (de_one (de_chain cm_le cm_le de_int (de_var 0) (de_glInt rfl T.m_GREATEST_NUMBER.choose_spec)))))))), fun xs QD ⟨x, e, q⟩ => ?_⟩
  subst e
  show dRet _ _ [.sh x]
  simp only [dRet, dAnd, dOr, dNot, dIf, dAndT, dOrT, dNotT, dTest, dChain, dIsi, dVar, dC, dOp, dUn, dTup, dLst, dCons, dNil, dCallB, dCall, dCallP, dSl, dSlS, dPart, dNoPart, dLc, dSet, dIfS, dFor, dAsg, dPar, dApp, dSetIx, dDrop, dSeq, dNext, dStore, diSeq, diRange1, diRange2, diZip, gdName, gdTup, gdCons, gdNil, dYes, oI, oI0, oLe, oGt, oGe, OpdData, toDs, isT_int, isT_bool, isT_tuple, isT_str, List.map_cons, List.map_nil, List.getElem?_cons_zero, List.getElem?_cons_succ, List.set_cons_zero, List.set_cons_succ, oIsN, c_is_integer]
  cases x with
  | int i =>
    refine ⟨_, rfl, _, rfl, ?_⟩
    by_cases h : 0 ≤ i
    · simpa [isIntD, numOk, h] using q
    · simpa [isIntD, numOk, h] using q
  | none => exact q
  | _ => exact ⟨_, rfl, _, rfl, q⟩
def c_are_numbers : DC := fun xs Q => ∃ x, xs = [x] ∧ (∀ ds, x = .tuple ds → ds.length ≤ 50000) ∧ Q (.k (.bool (numbersOk x)))
theorem ok_are_numbers (T : Txt K mg) (G_can_be_told : OkD P w K mg base "can_be_told" s_can_be_told ["thing"] 2 c_can_be_told) : OkD P w K mg base "are_numbers" s_are_numbers ["thing"] 3 c_are_numbers := by
  refine okD T.d_are_numbers sc_are_numbers (fun xs QD ⟨x, e, _⟩ => by rw [e]; rfl) (by decide) fun f cdv A outer s H E hg hr => ⟨_, (ds_cons (ds_if (dt_w (dw_or (dt_not (dt_val (de_isi (T := "tuple") (de_var 0) rfl T.m_isinstance (by decide +kernel) rfl T.m_tuple (by decide +kernel) kit_tupleT))) (dw_or1 (dt_not (dt_chain cm_le cm_le de_int (de_callB cr_len cd_len rfl T.m_len (by decide +kernel) (da_cons (de_var 0) da_nil)) (de_glInt rfl T.m_MOST_PERSONS.choose_spec)))))) (ds_one (ds_ret de_bl)) ds_nil) (ds_one (ds_ret (de_callB (cr_all rfl) cd_all rfl T.m_all (by decide +kernel) (da_cons (de_lc (own := [("number", 1)]) rfl sc_are_numbers.nd (di_seq (de_var 0)) (blkOk_by (N := ["thing", "number"]) (sc := defScope s_are_numbers) (by decide +kernel)) (fun _ _ _ _ _ => (dg_name (i := 1) sc_are_numbers.nd)) (fun _ _ _ _ _ => pts_yes) (fun _ _ _ _ _ => (de_fn G_can_be_told hg (hr.mono (by decide)) (da_cons (de_var 1) da_nil))) (by decide)) da_nil))))), fun xs QD ⟨x, e, hl, q⟩ => ?_⟩
  subst e
  show dSeq _ _ _ [.sh x, .un]
  cases x with
  | tuple ds =>
    simp only [dRet, dAnd, dOr, dNot, dIf, dAndT, dOrT, dNotT, dTest, dChain, dIsi, dVar, dC, dOp, dUn, dTup, dLst, dCons, dNil, dCallB, dCall, dCallP, dSl, dSlS, dPart, dNoPart, dLc, dSet, dIfS, dFor, dAsg, dPar, dApp, dSetIx, dDrop, dSeq, dNext, dStore, diSeq, diRange1, diRange2, diZip, gdName, gdTup, gdCons, gdNil, dYes, oI, oI0, oLe, oGt, oGe, OpdData, toDs, isT_int, isT_bool, isT_tuple, isT_str, List.map_cons, List.map_nil, List.getElem?_cons_zero, List.getElem?_cons_succ, List.set_cons_zero, List.set_cons_succ, oLen]
    rw [if_neg (by decide)]
    by_cases h1 : (1 : Int) ≤ ds.length
    · by_cases h8 : (ds.length : Int) ≤ 8
      · simp only [h1, h8, decide_true, Bool.not_true, if_true, seqOwn]
        rw [if_neg (by decide)]
        refine ⟨rfl, hl ds rfl, lcW_bools numOk (fun d hd N hN => ?_) ?_⟩
        · simp only [dRet, dAnd, dOr, dNot, dIf, dAndT, dOrT, dNotT, dTest, dChain, dIsi, dVar, dC, dOp, dUn, dTup, dLst, dCons, dNil, dCallB, dCall, dCallP, dSl, dSlS, dPart, dNoPart, dLc, dSet, dIfS, dFor, dAsg, dPar, dApp, dSetIx, dDrop, dSeq, dNext, dStore, diSeq, diRange1, diRange2, diZip, gdName, gdTup, gdCons, gdNil, dYes, oI, oI0, oLe, oGt, oGe, OpdData, toDs, isT_int, isT_bool, isT_tuple, isT_str, List.map_cons, List.map_nil, List.getElem?_cons_zero, List.getElem?_cons_succ, List.set_cons_zero, List.set_cons_succ, wipeS, c_can_be_told]
          exact ⟨rfl, _, rfl, d, rfl, hN⟩
        · simp only [oAll]
          refine ⟨_, boolsOf_map _, ?_⟩
          have e : numbersOk (.tuple ds) = (ds.map numOk).all id := by
            simp only [numbersOk, List.all_map]
            rw [decide_eq_true (by omega : 1 ≤ ds.length), decide_eq_true (by omega : ds.length ≤ 8)]
            rfl
          rw [e] at q
          exact q
      · simp only [h1, h8, decide_true, decide_false, Bool.not_false, if_true]
        have e : numbersOk (.tuple ds) = false := by
          simp only [numbersOk]
          rw [decide_eq_false (by omega : ¬ ds.length ≤ 8)]
          simp
        rw [e] at q
        exact q
    · simp only [h1, decide_false, if_true]
      have e : numbersOk (.tuple ds) = false := by
        simp only [numbersOk]
        rw [decide_eq_false (by omega : ¬ 1 ≤ ds.length)]
        simp
      rw [e] at q
      exact q
  | _ => simp only [dRet, dAnd, dOr, dNot, dIf, dAndT, dOrT, dNotT, dTest, dChain, dIsi, dVar, dC, dOp, dUn, dTup, dLst, dCons, dNil, dCallB, dCall, dCallP, dSl, dSlS, dPart, dNoPart, dLc, dSet, dIfS, dFor, dAsg, dPar, dApp, dSetIx, dDrop, dSeq, dNext, dStore, diSeq, diRange1, diRange2, diZip, gdName, gdTup, gdCons, gdNil, dYes, oI, oI0, oLe, oGt, oGe, OpdData, toDs, isT_int, isT_bool, isT_tuple, isT_str, List.map_cons, List.map_nil, List.getElem?_cons_zero, List.getElem?_cons_succ, List.set_cons_zero, List.set_cons_succ]; exact q
def c_is_person : DC := fun xs Q => ∃ x m, xs = [x, .int m] ∧ Q (.k (.bool (personOk m x)))
theorem ok_is_person (T : Txt K mg) (G_is_integer : OkD P w K mg base "is_integer" s_is_integer ["thing"] 1 c_is_integer) : OkD P w K mg base "is_person" s_is_person ["thing", "many"] 2 c_is_person := by
  refine okD T.d_is_person sc_is_person (fun xs QD ⟨x, m, e, _⟩ => by rw [e]; rfl) (by decide) fun f cdv A outer s H E hg hr => ⟨_, (ds_one (ds_ret (de_and (de_fn G_is_integer hg (hr.mono (by decide)) (da_cons (de_var 0) da_nil)) (de_one (de_chain cm_le (cm_lt hr.units) de_int (de_var 0) (de_var 1)))))), fun xs QD ⟨x, m, e, q⟩ => ?_⟩
  subst e
  show dRet _ _ [.sh x, .sh (.int m)]
  simp only [dRet, dAnd, dOr, dNot, dIf, dAndT, dOrT, dNotT, dTest, dChain, dIsi, dVar, dC, dOp, dUn, dTup, dLst, dCons, dNil, dCallB, dCall, dCallP, dSl, dSlS, dPart, dNoPart, dLc, dSet, dIfS, dFor, dAsg, dPar, dApp, dSetIx, dDrop, dSeq, dNext, dStore, diSeq, diRange1, diRange2, diZip, gdName, gdTup, gdCons, gdNil, dYes, oI, oI0, oLe, oGt, oGe, OpdData, toDs, isT_int, isT_bool, isT_tuple, isT_str, List.map_cons, List.map_nil, List.getElem?_cons_zero, List.getElem?_cons_succ, List.set_cons_zero, List.set_cons_succ, c_is_integer]
  refine ⟨_, rfl, x, rfl, ?_⟩
  cases x with
  | int i =>
    simp only [isIntD, if_true, oLt]
    simp only [personOk] at q
    by_cases h : 0 ≤ i
    · simpa [h] using q
    · simpa [h] using q
  | _ => exact q
/-- what may be a pair: no long list -/
def c_is_pair : DC := fun xs Q => ∃ x m, xs = [x, .int m] ∧ Q (.k (.bool (pairOk m x)))
theorem ok_is_pair (T : Txt K mg) (G_is_person : OkD P w K mg base "is_person" s_is_person ["thing", "many"] 2 c_is_person) : OkD P w K mg base "is_pair" s_is_pair ["thing", "many"] 3 c_is_pair := by
  refine okD T.d_is_pair sc_is_pair (fun xs QD ⟨x, m, e, _⟩ => by rw [e]; rfl) (by decide) fun f cdv A outer s H E hg hr => ⟨_, (ds_cons (ds_if (dt_w (dw_or (dt_not (dt_val (de_isi (T := "tuple") (de_var 0) rfl T.m_isinstance (by decide +kernel) rfl T.m_tuple (by decide +kernel) kit_tupleT))) (dw_or1 (dt_cmp (cm_ne hr.units) (de_callB cr_len cd_len rfl T.m_len (by decide +kernel) (da_cons (de_var 0) da_nil)) de_int)))) (ds_one (ds_ret de_bl)) ds_nil) (ds_cons (ds_asg (de_var 0) (dg_tup (n := 2) rfl (dgs_cons (dg_name (i := 2) sc_is_pair.nd) (dgs_cons (dg_name (i := 3) sc_is_pair.nd) dgs_nil)))) (ds_one (ds_ret (de_and (de_fn G_is_person hg (hr.mono (by decide)) (da_cons (de_var 2) (da_cons (de_var 1) da_nil))) (de_and (de_fn G_is_person hg (hr.mono (by decide)) (da_cons (de_var 3) (da_cons (de_var 1) da_nil))) (de_one (de_cmp (cm_lt hr.units) (de_var 2) (de_var 3))))))))), fun xs QD ⟨x, m, e, q⟩ => ?_⟩
  subst e
  show dSeq _ _ _ [.sh x, .sh (.int m), .un, .un]
  cases x with
  | tuple ds =>
    simp only [dRet, dAnd, dOr, dNot, dIf, dAndT, dOrT, dNotT, dTest, dChain, dIsi, dVar, dC, dOp, dUn, dTup, dLst, dCons, dNil, dCallB, dCall, dCallP, dSl, dSlS, dPart, dNoPart, dLc, dSet, dIfS, dFor, dAsg, dPar, dApp, dSetIx, dDrop, dSeq, dNext, dStore, diSeq, diRange1, diRange2, diZip, gdName, gdTup, gdCons, gdNil, dYes, oI, oI0, oLe, oGt, oGe, OpdData, toDs, isT_int, isT_bool, isT_tuple, isT_str, List.map_cons, List.map_nil, List.getElem?_cons_zero, List.getElem?_cons_succ, List.set_cons_zero, List.set_cons_succ, oLen, oNe, c_is_person]
    rw [if_neg (by decide)]
    refine ⟨rfl, rfl, ?_⟩
    by_cases hl : ds.length = 2
    · match ds, hl, q with
      | [a, b], _, q =>
        rw [if_neg (by simp [PyData.eqv])]
        refine ⟨_, rfl, rfl, rfl, rfl, _, rfl, a, m, rfl, ?_⟩
        simp only [pairOk] at q
        cases ha : personOk m a with
        | false => rw [ha] at q; exact q
        | true =>
          rw [ha] at q
          refine ⟨_, rfl, b, m, rfl, ?_⟩
          cases hb : personOk m b with
          | false => rw [hb] at q; exact q
          | true =>
            rw [hb] at q
            obtain ⟨i, rfl, _⟩ := personOk_int ha
            obtain ⟨j, rfl, _⟩ := personOk_int hb
            exact q
    · rw [if_pos (by simp [PyData.eqv]; omega)]
      rw [pairOk_len hl] at q
      exact q
  | _ => simp only [dRet, dAnd, dOr, dNot, dIf, dAndT, dOrT, dNotT, dTest, dChain, dIsi, dVar, dC, dOp, dUn, dTup, dLst, dCons, dNil, dCallB, dCall, dCallP, dSl, dSlS, dPart, dNoPart, dLc, dSet, dIfS, dFor, dAsg, dPar, dApp, dSetIx, dDrop, dSeq, dNext, dStore, diSeq, diRange1, diRange2, diZip, gdName, gdTup, gdCons, gdNil, dYes, oI, oI0, oLe, oGt, oGe, OpdData, toDs, isT_int, isT_bool, isT_tuple, isT_str, List.map_cons, List.map_nil, List.getElem?_cons_zero, List.getElem?_cons_succ, List.set_cons_zero, List.set_cons_succ]; exact q
def c_are_pairs : DC := fun xs Q => ∃ x m, xs = [x, .int m] ∧ (∀ ds, x = .tuple ds → ds.length ≤ 50000) ∧ Q (.k (.bool (pairsOk m x)))
theorem ok_are_pairs (T : Txt K mg) (G_is_pair : OkD P w K mg base "is_pair" s_is_pair ["thing", "many"] 3 c_is_pair) : OkD P w K mg base "are_pairs" s_are_pairs ["thing", "many"] 4 c_are_pairs := by
  refine okD T.d_are_pairs sc_are_pairs (fun xs QD ⟨x, m, e, _⟩ => by rw [e]; rfl) (by decide) fun f cdv A outer s H E hg hr => ⟨_, (ds_cons (ds_if (dt_not (dt_val (de_isi (T := "tuple") (de_var 0) rfl T.m_isinstance (by decide +kernel) rfl T.m_tuple (by decide +kernel) kit_tupleT))) (ds_one (ds_ret de_bl)) ds_nil) (ds_cons (ds_if (dt_not (dt_val (de_callB (cr_all rfl) cd_all rfl T.m_all (by decide +kernel) (da_cons (de_lc (own := [("pair", 2)]) rfl sc_are_pairs.nd (di_seq (de_var 0)) (blkOk_by (N := ["thing", "many", "pair", "one", "other"]) (sc := defScope s_are_pairs) (by decide +kernel)) (fun _ _ _ _ _ => (dg_name (i := 2) sc_are_pairs.nd)) (fun _ _ _ _ _ => pts_yes) (fun _ _ _ _ _ => (de_fn G_is_pair hg (hr.mono (by decide)) (da_cons (de_var 2) (da_cons (de_var 1) da_nil)))) (by decide)) da_nil)))) (ds_one (ds_ret de_bl)) ds_nil) (ds_one (ds_ret (de_callB (cr_all rfl) cd_all rfl T.m_all (by decide +kernel) (da_cons (de_lc (own := [("one", 3), ("other", 4)]) rfl sc_are_pairs.nd (di_zip rfl T.m_zip (da_cons (de_var 0) (da_cons (de_sl (de_var 0) (do_some de_int) do_none) da_nil))) (blkOk_by (N := ["thing", "many", "pair", "one", "other"]) (sc := defScope s_are_pairs) (by decide +kernel)) (fun _ _ _ _ _ => (dg_tup (n := 2) rfl (dgs_cons (dg_name (i := 3) sc_are_pairs.nd) (dgs_cons (dg_name (i := 4) sc_are_pairs.nd) dgs_nil)))) (fun _ _ _ _ _ => pts_yes) (fun _ _ _ _ _ => (de_cmp (cm_lt hr.units) (de_var 3) (de_var 4))) (by decide)) da_nil)))))), fun xs QD ⟨x, m, e, hl, q⟩ => ?_⟩
  subst e
  show dSeq _ _ _ [.sh x, .sh (.int m), .un, .un, .un]
  cases x with
  | tuple ds =>
    simp only [dRet, dAnd, dOr, dNot, dIf, dAndT, dOrT, dNotT, dTest, dChain, dIsi, dVar, dC, dOp, dUn, dTup, dLst, dCons, dNil, dCallB, dCall, dCallP, dSl, dSlS, dPart, dNoPart, dLc, dSet, dIfS, dFor, dAsg, dPar, dApp, dSetIx, dDrop, dSeq, dNext, dStore, diSeq, diRange1, diRange2, diZip, gdName, gdTup, gdCons, gdNil, dYes, oI, oI0, oLe, oGt, oGe, OpdData, toDs, isT_int, isT_bool, isT_tuple, isT_str, List.map_cons, List.map_nil, List.getElem?_cons_zero, List.getElem?_cons_succ, List.set_cons_zero, List.set_cons_succ, oLen]
    rw [if_neg (by decide)]
    simp only [seqOwn]
    refine ⟨rfl, hl ds rfl, lcW_bools (pairOk m) (fun d hd N hN => ?_) ?_⟩
    · simp only [dRet, dAnd, dOr, dNot, dIf, dAndT, dOrT, dNotT, dTest, dChain, dIsi, dVar, dC, dOp, dUn, dTup, dLst, dCons, dNil, dCallB, dCall, dCallP, dSl, dSlS, dPart, dNoPart, dLc, dSet, dIfS, dFor, dAsg, dPar, dApp, dSetIx, dDrop, dSeq, dNext, dStore, diSeq, diRange1, diRange2, diZip, gdName, gdTup, gdCons, gdNil, dYes, oI, oI0, oLe, oGt, oGe, OpdData, toDs, isT_int, isT_bool, isT_tuple, isT_str, List.map_cons, List.map_nil, List.getElem?_cons_zero, List.getElem?_cons_succ, List.set_cons_zero, List.set_cons_succ, wipeS, c_is_pair]
      exact ⟨rfl, _, rfl, d, m, rfl, hN⟩
    · simp only [oAll]
      refine ⟨_, boolsOf_map _, ?_⟩
      cases hall : ds.all (pairOk m) with
      | false =>
        rw [if_pos (by rw [List.all_map]; simpa using hall)]
        simp only [pairsOk, hall] at q
        exact q
      | true =>
        rw [if_neg (by rw [List.all_map]; simpa using hall)]
        simp only [oSl]
        rw [show (some (1 : Int)) = some ((1 : Nat) : Int) from rfl, cutD_from]
        refine ⟨zipD ds (ds.drop 1), rfl, rfl, Nat.le_trans (zipD_len _ _) (hl ds rfl), lcW_bools lt2 (fun d hd N hN => ?_) ?_⟩
        · obtain ⟨x, y, hx, hy, rfl⟩ := zipD_mem hd
          obtain ⟨a, b, rfl⟩ := pairOk_ints (List.all_eq_true.mp hall x hx)
          obtain ⟨c, e, rfl⟩ := pairOk_ints (List.all_eq_true.mp hall y (List.mem_of_mem_drop hy))
          simp only [dRet, dAnd, dOr, dNot, dIf, dAndT, dOrT, dNotT, dTest, dChain, dIsi, dVar, dC, dOp, dUn, dTup, dLst, dCons, dNil, dCallB, dCall, dCallP, dSl, dSlS, dPart, dNoPart, dLc, dSet, dIfS, dFor, dAsg, dPar, dApp, dSetIx, dDrop, dSeq, dNext, dStore, diSeq, diRange1, diRange2, diZip, gdName, gdTup, gdCons, gdNil, dYes, oI, oI0, oLe, oGt, oGe, OpdData, toDs, isT_int, isT_bool, isT_tuple, isT_str, List.map_cons, List.map_nil, List.getElem?_cons_zero, List.getElem?_cons_succ, List.set_cons_zero, List.set_cons_succ, wipeS]
          exact ⟨rfl, rfl, rfl, [a, b], [c, e], rfl, rfl, hN⟩
        · refine ⟨_, boolsOf_map _, ?_⟩
          rw [asc_zip]
          simp only [pairsOk, hall] at q
          exact q
  | _ => simp only [dRet, dAnd, dOr, dNot, dIf, dAndT, dOrT, dNotT, dTest, dChain, dIsi, dVar, dC, dOp, dUn, dTup, dLst, dCons, dNil, dCallB, dCall, dCallP, dSl, dSlS, dPart, dNoPart, dLc, dSet, dIfS, dFor, dAsg, dPar, dApp, dSetIx, dDrop, dSeq, dNext, dStore, diSeq, diRange1, diRange2, diZip, gdName, gdTup, gdCons, gdNil, dYes, oI, oI0, oLe, oGt, oGe, OpdData, toDs, isT_int, isT_bool, isT_tuple, isT_str, List.map_cons, List.map_nil, List.getElem?_cons_zero, List.getElem?_cons_succ, List.set_cons_zero, List.set_cons_succ]; exact q
def c_is_party : DC := fun xs Q => ∃ x, xs = [x] ∧ smallD x = true ∧ Q (.k (.bool (partyOk x)))
theorem ok_is_party (T : Txt K mg) (G_are_numbers : OkD P w K mg base "are_numbers" s_are_numbers ["thing"] 3 c_are_numbers) (G_are_pairs : OkD P w K mg base "are_pairs" s_are_pairs ["thing", "many"] 4 c_are_pairs) :
    OkD P w K mg base "is_party" s_is_party ["thing"] 5 c_is_party := by
  refine okD T.d_is_party sc_is_party (fun xs QD ⟨x, e, _⟩ => by rw [e]; rfl) (by decide) fun f cdv A outer s H E hg hr => ⟨_, (ds_cons (ds_if (dt_w (dw_or (dt_not (dt_val (de_isi (T := "tuple") (de_var 0) rfl T.m_isinstance (by decide +kernel) rfl T.m_tuple (by decide +kernel) kit_tupleT))) (dw_or1 (dt_cmp (cm_ne hr.units) (de_callB cr_len cd_len rfl T.m_len (by decide +kernel) (da_cons (de_var 0) da_nil)) de_int)))) (ds_one (ds_ret de_bl)) ds_nil) (ds_cons (ds_asg (de_var 0) (dg_tup (n := 3) rfl (dgs_cons (dg_name (i := 1) sc_is_party.nd) (dgs_cons (dg_name (i := 2) sc_is_party.nd) (dgs_cons (dg_name (i := 3) sc_is_party.nd) dgs_nil))))) (ds_cons (ds_if (dt_not (dt_val (de_fn G_are_numbers hg (hr.mono (by decide)) (da_cons (de_var 1) da_nil)))) (ds_one (ds_ret de_bl)) ds_nil) (ds_cons (ds_if (dt_w (dw_or (dt_not (dt_val (de_fn G_are_pairs hg (hr.mono (by decide)) (da_cons (de_var 2) (da_cons (de_callB cr_len cd_len rfl T.m_len (by decide +kernel) (da_cons (de_var 1) da_nil)) da_nil))))) (dw_or1 (dt_not (dt_val (de_fn G_are_pairs hg (hr.mono (by decide)) (da_cons (de_var 3) (da_cons (de_callB cr_len cd_len rfl T.m_len (by decide +kernel) (da_cons (de_var 1) da_nil)) da_nil)))))))) (ds_one (ds_ret de_bl)) ds_nil) (ds_one (ds_ret (de_not (de_callB (cr_any rfl) cd_any rfl T.m_any (by decide +kernel) (da_cons (de_lc (own := [("pair", 4)]) rfl sc_is_party.nd (di_seq (de_var 3)) (blkOk_by (N := ["thing", "numbers", "met", "apart", "pair"]) (sc := defScope s_is_party) (by decide +kernel)) (fun _ _ _ _ _ => (dg_name (i := 4) sc_is_party.nd)) (fun _ _ _ _ _ => pts_yes) (fun _ _ _ _ _ => (de_cmp (cm_in (hu65 hr)) (de_var 4) (de_var 2))) (by decide)) da_nil))))))))), fun xs QD ⟨x, e, hl, q⟩ => ?_⟩
  subst e
  show dSeq _ _ _ [.sh x, .un, .un, .un, .un]
  cases x with
  | tuple ds =>
    simp only [dRet, dAnd, dOr, dNot, dIf, dAndT, dOrT, dNotT, dTest, dChain, dIsi, dVar, dC, dOp, dUn, dTup, dLst, dCons, dNil, dCallB, dCall, dCallP, dSl, dSlS, dPart, dNoPart, dLc, dSet, dIfS, dFor, dAsg, dPar, dApp, dSetIx, dDrop, dSeq, dNext, dStore, diSeq, diRange1, diRange2, diZip, gdName, gdTup, gdCons, gdNil, dYes, oI, oI0, oLe, oGt, oGe, OpdData, toDs, isT_int, isT_bool, isT_tuple, isT_str, List.map_cons, List.map_nil, List.getElem?_cons_zero, List.getElem?_cons_succ, List.set_cons_zero, List.set_cons_succ, oLen, oNe, c_are_numbers, c_are_pairs]
    rw [if_neg (by decide)]
    refine ⟨rfl, rfl, ?_⟩
    by_cases h3 : ds.length = 3
    · match ds, h3, hl, q with
      | [n, a, b], _, hl, q =>
        rw [if_neg (by simp [PyData.eqv])]
        simp only [smallD, List.all_cons, List.all_nil, Bool.and_true, Bool.and_eq_true] at hl
        simp only [partyOk] at q
        refine ⟨_, rfl, rfl, rfl, rfl, rfl, _, rfl, n, rfl, rowLen_le hl.1, ?_⟩
        cases hn : numbersOk n with
        | false => rw [hn] at q; exact q
        | true =>
          rw [hn] at q
          obtain ⟨ns, rfl, _, _, _⟩ := numbersOk_tup hn
          simp only [lenD] at q
          refine ⟨_, rfl, a, ns.length, rfl, rowLen_le hl.2.1, ?_⟩
          cases ha : pairsOk ns.length a with
          | false => rw [ha] at q; exact q
          | true =>
            rw [ha] at q
            refine ⟨_, rfl, b, ns.length, rfl, rowLen_le hl.2.2, ?_⟩
            cases hb : pairsOk ns.length b with
            | false => rw [hb] at q; exact q
            | true =>
              rw [hb] at q
              obtain ⟨pa, rfl, ha1, ha2⟩ := pairsOk_tup ha
              obtain ⟨pb, rfl, hb1, hb2⟩ := pairsOk_tup hb
              simp only [Bool.not_true, Bool.false_eq_true, if_false, seqOwn]
              refine ⟨rfl, rowLen_le hl.2.2 _ rfl, lcW_bools (fun p => pa.any fun q => PyData.eqv q p) (fun d hd N hN => ?_) ?_⟩
              · simp only [dRet, dAnd, dOr, dNot, dIf, dAndT, dOrT, dNotT, dTest, dChain, dIsi, dVar, dC, dOp, dUn, dTup, dLst, dCons, dNil, dCallB, dCall, dCallP, dSl, dSlS, dPart, dNoPart, dLc, dSet, dIfS, dFor, dAsg, dPar, dApp, dSetIx, dDrop, dSeq, dNext, dStore, diSeq, diRange1, diRange2, diZip, gdName, gdTup, gdCons, gdNil, dYes, oI, oI0, oLe, oGt, oGe, OpdData, toDs, isT_int, isT_bool, isT_tuple, isT_str, List.map_cons, List.map_nil, List.getElem?_cons_zero, List.getElem?_cons_succ, List.set_cons_zero, List.set_cons_succ, wipeS, oIn]
                refine ⟨rfl, lowD_shp (pairOk_low (hb1 d hd)), lowD_shp (pairsOk_low ha1), ?_⟩
                rw [Bool.false_xor]
                exact hN
              · simp only [oAny]
                refine ⟨_, boolsOf_map _, ?_⟩
                rw [List.any_map]
                exact q
    · rw [if_pos (by simp [PyData.eqv]; omega)]
      rw [partyOk_len h3] at q
      exact q
  | _ => simp only [dRet, dAnd, dOr, dNot, dIf, dAndT, dOrT, dNotT, dTest, dChain, dIsi, dVar, dC, dOp, dUn, dTup, dLst, dCons, dNil, dCallB, dCall, dCallP, dSl, dSlS, dPart, dNoPart, dLc, dSet, dIfS, dFor, dAsg, dPar, dApp, dSetIx, dDrop, dSeq, dNext, dStore, diSeq, diRange1, diRange2, diZip, gdName, gdTup, gdCons, gdNil, dYes, oI, oI0, oLe, oGt, oGe, OpdData, toDs, isT_int, isT_bool, isT_tuple, isT_str, List.map_cons, List.map_nil, List.getElem?_cons_zero, List.getElem?_cons_succ, List.set_cons_zero, List.set_cons_succ]; exact q
end
end K02

namespace K02
open PySem PySem.Spec PyProof.Rows L2 DL
section
variable {P : Program} {w : World} {K : PySem.W.Frag} {mg : Str → Option Value} {base : Heap}
/-! ### draws -/
def c_kneaded : DC := fun xs Q => ∃ s l : Int, xs = [.int s, .int l] ∧ 0 ≤ s ∧ s < 1000000000 ∧ 0 ≤ l ∧ ∀ r : Int, 0 ≤ r → Q (.k (.int r))
theorem ok_kneaded (T : Txt K mg) : OkD P w K mg base "_law_kneaded" s__law_kneaded ["seed", "lap"] 1 c_kneaded := by
  refine okD T.d__law_kneaded sc__law_kneaded (fun xs QD ⟨s, l, e, _⟩ => by rw [e]; rfl) (by decide) fun f cdv A outer s H E hg hr => ⟨_, (ds_cons (ds_set (i := 2) sc__law_kneaded.nd de_int) (ds_cons (ds_set (i := 3) sc__law_kneaded.nd (de_mod (de_callTy call_int1 cd_int rfl T.m_int (by decide +kernel) (da_cons (de_add (de_add (de_mul (de_var 0) de_int) (de_mul (de_var 1) de_int)) de_int) da_nil)) (de_var 2))) (ds_cons (ds_for PassesOwn.never rfl (di_range1 rfl T.m_range (da_cons de_int da_nil)) (dg_name (i := 4) sc__law_kneaded.nd) (ds_one (ds_set (i := 3) sc__law_kneaded.nd (de_mod (de_callTy call_int1 cd_int rfl T.m_int (by decide +kernel) (da_cons (de_add (de_add (de_add (de_mul (de_var 3) (de_var 3)) (de_mul de_int (de_var 3))) (de_mul de_int (de_var 4))) (de_var 1)) da_nil)) (de_var 2))))) (ds_one (ds_ret (de_add (de_mul (de_var 3) (de_var 2)) (de_mod (de_callTy call_int1 cd_int rfl T.m_int (by decide +kernel) (da_cons (de_add (de_mul (de_var 3) de_int) (de_var 1)) da_nil)) (de_var 2)))))))), fun xs QD ⟨s, l, e, h0, h1, h2, q⟩ => ?_⟩
  subst e
  show dSeq _ _ _ [.sh (.int s), .sh (.int l), .un, .un, .un]
  simp only [dRet, dAnd, dOr, dNot, dIf, dAndT, dOrT, dNotT, dTest, dChain, dIsi, dVar, dC, dOp, dUn, dTup, dLst, dCons, dNil, dCallB, dCall, dCallP, dSl, dSlS, dPart, dNoPart, dLc, dSet, dIfS, dFor, dAsg, dPar, dApp, dSetIx, dDrop, dSeq, dNext, dStore, diSeq, diRange1, diRange2, diZip, gdName, gdTup, gdCons, gdNil, dYes, oI, oI0, oLe, oGt, oGe, OpdData, toDs, isT_int, isT_bool, isT_tuple, isT_str, List.map_cons, List.map_nil, List.getElem?_cons_zero, List.getElem?_cons_succ, List.set_cons_zero, List.set_cons_succ, oMul, oAdd, oInt]
  have em : ∀ z : Int, 0 ≤ z % 2305843009213693907 ∧ z % 2305843009213693907 < 2305843009213693907 := fun z => ⟨Int.emod_nonneg _ (by decide), Int.emod_lt_of_pos _ (by decide)⟩
  refine ⟨rfl, .inr ⟨by decide, by decide⟩, .inr ⟨by decide, by decide⟩, by decide, rfl, by decide, by decide, trivial,
    forW_ind (fun ds ρ => (∀ d ∈ ds, ∃ k : Int, d = .int k ∧ 0 ≤ k ∧ k < 4) ∧ ∃ a x, ρ = [.sh (.int s), .sh (.int l), .sh (.int 2305843009213693907), .sh (.int a), x] ∧ (x = .un ∨ ∃ d, x = .sh d) ∧ 0 ≤ a ∧ a < 2305843009213693907) ?_ ?_ ?_⟩
  · rintro d r ρ N ⟨hd, a, x, rfl, hx, ha, ha2⟩ hN
    obtain ⟨k, rfl, k0, k4⟩ := hd d List.mem_cons_self
    have hr := fun d' h' => hd d' (List.mem_cons_of_mem _ h')
    rcases hx with rfl | ⟨y, rfl⟩
    · simp only [dRet, dAnd, dOr, dNot, dIf, dAndT, dOrT, dNotT, dTest, dChain, dIsi, dVar, dC, dOp, dUn, dTup, dLst, dCons, dNil, dCallB, dCall, dCallP, dSl, dSlS, dPart, dNoPart, dLc, dSet, dIfS, dFor, dAsg, dPar, dApp, dSetIx, dDrop, dSeq, dNext, dStore, diSeq, diRange1, diRange2, diZip, gdName, gdTup, gdCons, gdNil, dYes, oI, oI0, oLe, oGt, oGe, OpdData, toDs, isT_int, isT_bool, isT_tuple, isT_str, List.map_cons, List.map_nil, List.getElem?_cons_zero, List.getElem?_cons_succ, List.set_cons_zero, List.set_cons_succ, oMul, oAdd, oInt]
      exact ⟨rfl, .inl ⟨by omega, by omega⟩, .inl ⟨by decide, by decide⟩, .inl ⟨by decide, by decide⟩, by decide, rfl, hN _ ⟨hr, _, _, rfl, .inr ⟨_, rfl⟩, (em _).1, (em _).2⟩⟩
    · simp only [dRet, dAnd, dOr, dNot, dIf, dAndT, dOrT, dNotT, dTest, dChain, dIsi, dVar, dC, dOp, dUn, dTup, dLst, dCons, dNil, dCallB, dCall, dCallP, dSl, dSlS, dPart, dNoPart, dLc, dSet, dIfS, dFor, dAsg, dPar, dApp, dSetIx, dDrop, dSeq, dNext, dStore, diSeq, diRange1, diRange2, diZip, gdName, gdTup, gdCons, gdNil, dYes, oI, oI0, oLe, oGt, oGe, OpdData, toDs, isT_int, isT_bool, isT_tuple, isT_str, List.map_cons, List.map_nil, List.getElem?_cons_zero, List.getElem?_cons_succ, List.set_cons_zero, List.set_cons_succ, oMul, oAdd, oInt]
      exact ⟨rfl, .inl ⟨by omega, by omega⟩, .inl ⟨by decide, by decide⟩, .inl ⟨by decide, by decide⟩, by decide, rfl, hN _ ⟨hr, _, _, rfl, .inr ⟨_, rfl⟩, (em _).1, (em _).2⟩⟩
  · rintro ρ ⟨_, a, x, rfl, hx, ha, ha2⟩
    simp only [dRet, dAnd, dOr, dNot, dIf, dAndT, dOrT, dNotT, dTest, dChain, dIsi, dVar, dC, dOp, dUn, dTup, dLst, dCons, dNil, dCallB, dCall, dCallP, dSl, dSlS, dPart, dNoPart, dLc, dSet, dIfS, dFor, dAsg, dPar, dApp, dSetIx, dDrop, dSeq, dNext, dStore, diSeq, diRange1, diRange2, diZip, gdName, gdTup, gdCons, gdNil, dYes, oI, oI0, oLe, oGt, oGe, OpdData, toDs, isT_int, isT_bool, isT_tuple, isT_str, List.map_cons, List.map_nil, List.getElem?_cons_zero, List.getElem?_cons_succ, List.set_cons_zero, List.set_cons_succ, oMul, oAdd, oInt]
    exact ⟨.inl ⟨by omega, by omega⟩, .inl ⟨by omega, by omega⟩, by decide, q _ (Int.add_nonneg (Int.mul_nonneg ha (by decide)) (em _).1)⟩
  · refine ⟨fun d hd => ?_, _, _, rfl, .inl rfl, (em _).1, (em _).2⟩
    unfold rangeD at hd
    obtain ⟨i, hi, rfl⟩ := List.mem_map.mp hd
    have := List.mem_range.mp hi
    exact ⟨_, rfl, by omega, by omega⟩
theorem shp_lints (cs : List Int) : shp (.list (cs.map PyData.int)) = true := lowD_shp (n := 1) (lowD_lst (n := 0) fun d hd => by
  obtain ⟨i, _, rfl⟩ := List.mem_map.mp hd
  exact lowD_int i)
theorem of_ints {P : Int → Prop} : ∀ {rs : List PyData}, (∀ d ∈ rs, ∃ c : Int, d = .int c ∧ P c) → ∃ cs : List Int, rs = cs.map PyData.int ∧ ∀ n ∈ cs, P n
  | [], _ => ⟨[], rfl, fun _ h => nomatch h⟩
  | d :: r, h => by
    obtain ⟨c, rfl, hc⟩ := h d List.mem_cons_self
    obtain ⟨cs, rfl, hcs⟩ := of_ints fun x hx => h x (List.mem_cons_of_mem _ hx)
    refine ⟨c :: cs, rfl, fun n hn => ?_⟩
    rcases List.mem_cons.mp hn with rfl | hn
    · exact hc
    · exact hcs n hn
def c_below : DC := fun xs Q => ∃ b : Int, xs = [.int b] ∧ 0 < b ∧ b < 2 ^ 64 ∧ ∀ r : Int, 0 ≤ r → r < b → Q (.k (.int r))
theorem ints_nil (cs : List Int) : PyData.eqv (.list (cs.map PyData.int)) (.list []) = cs.isEmpty := by
  cases cs <;> simp [PyData.eqv, PyData.eqvAll]
theorem ok_below (T : Txt K mg) (G__law_kneaded : OkD P w K mg base "_law_kneaded" s__law_kneaded ["seed", "lap"] 1 c_kneaded) : OkP P w K mg base "_law_below" s__law_below ["pot", "bound"] 2 c_below := by
  refine okP T.d__law_below sc__law_below (fun xs QD ⟨b, e, _⟩ => by rw [e]; rfl) (by decide) fun f cdv A outer s H E hg hr => ⟨_, (ds_cons (ds_if (dt_cmp (cm_lt hr.units) (de_potI 0 (by decide)) (de_var 1)) (ds_cons (ds_parS (i := 2) (j := 3) (de_potC 0) (de_potI 0 (by decide)) fun _ _ a b => ps_par rfl sc__law_below.nd rfl rfl (by decide) rfl rfl (pa_cons a (pa_cons b pa_nil)) (by rfl)) (ds_cons (ds_set (i := 4) sc__law_below.nd (de_if (dt_cmp (cm_ne hr.units) (de_var 2) (de_lst da_nil)) (de_ix (de_var 2) (de_mod (de_var 3) (de_callB cr_len cd_len rfl T.m_len (by decide +kernel) (da_cons (de_var 2) da_nil)))) de_int)) (ds_cons (ds_if (dt_w (dw_or (dt_cmp cm_ge (de_var 3) (de_callB cr_len cd_len rfl T.m_len (by decide +kernel) (da_cons (de_var 2) da_nil))) (dw_or1 (dt_cmp (cm_lt hr.units) (de_var 4) (de_pow de_int de_int))))) (ds_one (ds_set (i := 4) sc__law_below.nd (de_fn G__law_kneaded hg (hr.mono (by decide)) (da_cons (de_mod (de_callTy call_int1 cd_int rfl T.m_int (by decide +kernel) (da_cons (de_var 4) da_nil)) de_int) (da_cons (de_var 3) da_nil))))) ds_nil) (ds_cons (ds_potSetS (k := 1) 0 (by decide) (de_add (de_var 3) de_int) rfl (Or.inl rfl) (by decide) (by decide) fun _ a b => ps_asg a (pg_sub b pe_int set_list)) (ds_cons (ds_potSetS (k := 2) 0 (by decide) (de_var 4) rfl (Or.inl rfl) (by decide) (by decide) fun _ a b => ps_asg a (pg_sub b pe_int set_list)) (ds_one (ds_potSetS (k := 3) 0 (by decide) (de_var 4) rfl (Or.inl rfl) (by decide) (by decide) fun _ a b => ps_asg a (pg_sub b pe_int set_list)))))))) ds_nil) (ds_cons (ds_set (i := 5) sc__law_below.nd (de_mod (de_callTy call_int1 cd_int rfl T.m_int (by decide +kernel) (da_cons (de_potI 0 (by decide)) da_nil)) (de_var 1))) (ds_cons (ds_potSetS (k := 2) 0 (by decide) (de_fdivW (de_potI 0 (by decide)) (de_var 1)) rfl (Or.inl rfl) (by decide) (by decide) fun _ a b => ps_asg a (pg_sub b pe_int set_list)) (ds_cons (ds_potSetS (k := 3) 0 (by decide) (de_fdivW (de_potI 0 (by decide)) (de_var 1)) rfl (Or.inl rfl) (by decide) (by decide) fun _ a b => ps_asg a (pg_sub b pe_int set_list)) (ds_one (ds_ret (de_var 5))))))), fun xs QD ⟨b, e, h0, h1, q⟩ => ?_⟩
  subst e
  show dSeq _ _ _ [.pot, .sh (.int b), .un, .un, .un, .un]
  refine dSeq_cut (fun ρ => ∃ x y z, ρ = [.pot, .sh (.int b), x, y, z, .un] ∧ Pl x ∧ Pl y ∧ Pl z) (fun N hN => ?_) ?_
  · refine ⟨rfl, fun v hv => ?_⟩
    show if decide (v < b) = true then _ else N [.pot, .sh (.int b), .un, .un, .un, .un]
    by_cases hvb : v < b
    · rw [if_pos (by simpa using hvb)]
      refine ⟨rfl, fun cs c0 c1 => ⟨rfl, fun pl pl0 => ⟨⟨_, rfl⟩, rfl, rfl, ?_⟩⟩⟩
      dsimp only [List.set_cons_zero, List.set_cons_succ]
      refine dSeq_cut (fun ρ => ∃ am : Int, 0 ≤ am ∧ ρ = [.pot, .sh (.int b), .sh (.list (cs.map .int)), .sh (.int pl), .sh (.int am), .un]) (fun N2 hN2 => ?_) ?_
      · simp only [dRet, dAnd, dOr, dNot, dIf, dAndT, dOrT, dNotT, dTest, dChain, dIsi, dVar, dC, dOp, dUn, dTup, dLst, dCons, dNil, dCallB, dCall, dCallP, dSl, dSlS, dPart, dNoPart, dLc, dSet, dIfS, dFor, dAsg, dPar, dApp, dSetIx, dDrop, dSeq, dNext, dStore, diSeq, diRange1, diRange2, diZip, gdName, gdTup, gdCons, gdNil, dYes, oI, oI0, oLe, oGt, oGe, OpdData, toDs, isT_int, isT_bool, isT_tuple, isT_str, List.map_cons, List.map_nil, List.getElem?_cons_zero, List.getElem?_cons_succ, List.set_cons_zero, List.set_cons_succ, oNe, oLen, oIx]
        refine ⟨[], rfl, by decide, shp_lints cs, by decide +kernel, ?_⟩
        rw [ints_nil]
        cases hc : cs with
        | nil => exact ⟨rfl, hN2 _ ⟨0, Int.le_refl _, by rw [hc]⟩⟩
        | cons c0' r =>
          rw [if_pos (by rfl), ← hc]
          have hpos : (0 : Int) < cs.length := by rw [hc]; simp
          obtain ⟨c, hm, hat⟩ := at_emod cs pl hpos
          rw [List.length_map]
          exact ⟨hpos, .int c, hat, rfl, hN2 _ ⟨c, c0 _ hm, rfl⟩⟩
      · rintro ρ ⟨am, ham, rfl⟩
        refine dSeq_cut (fun ρ => ∃ am : Int, 0 ≤ am ∧ ρ = [.pot, .sh (.int b), .sh (.list (cs.map .int)), .sh (.int pl), .sh (.int am), .un]) (fun N3 hN3 => ?_) ?_
        · simp only [dRet, dAnd, dOr, dNot, dIf, dAndT, dOrT, dNotT, dTest, dChain, dIsi, dVar, dC, dOp, dUn, dTup, dLst, dCons, dNil, dCallB, dCall, dCallP, dSl, dSlS, dPart, dNoPart, dLc, dSet, dIfS, dFor, dAsg, dPar, dApp, dSetIx, dDrop, dSeq, dNext, dStore, diSeq, diRange1, diRange2, diZip, gdName, gdTup, gdCons, gdNil, dYes, oI, oI0, oLe, oGt, oGe, OpdData, toDs, isT_int, isT_bool, isT_tuple, isT_str, List.map_cons, List.map_nil, List.getElem?_cons_zero, List.getElem?_cons_succ, List.set_cons_zero, List.set_cons_succ, oLen, oLt, oInt, c_kneaded]
          have kn : ∀ a : Int, 0 ≤ a → (0 : Int) < 982451629 ∧ ∃ ds, Option.map (fun x => PyData.int (a % 982451629) :: x) (Option.map (fun x => PyData.int pl :: x) (some [])) = some ds ∧ c_kneaded ds fun dv => dStore 4 dv [.pot, .sh (.int b), .sh (.list (cs.map .int)), .sh (.int pl), .sh (.int am), .un] N3 := fun a ha =>
            ⟨by decide, _, rfl, a % 982451629, pl, rfl, Int.emod_nonneg _ (by decide), Int.lt_trans (Int.emod_lt_of_pos _ (by decide)) (by decide), pl0, fun r hr => ⟨rfl, hN3 _ ⟨r, hr, rfl⟩⟩⟩
          have k1 := kn am ham
          by_cases hq : ((cs.map PyData.int).length : Int) ≤ pl
          · rw [if_pos (by simpa using hq), if_pos trivial]
            exact k1
          · rw [if_neg (by simpa using hq)]
            refine ⟨⟨by decide, by decide, by decide⟩, ?_⟩
            by_cases h16 : am < 10 ^ (16 : Int).toNat
            · rw [if_pos (by simpa using h16)]
              exact k1
            · rw [if_neg (by simpa using h16)]
              exact hN3 _ ⟨am, ham, rfl⟩
        · rintro ρ ⟨am, ham, rfl⟩
          exact ⟨rfl, pl + 1, rfl, by omega, rfl, am, rfl, ham, rfl, am, rfl, ham, hN _ ⟨_, _, _, rfl, .sh _, .sh _, .sh _⟩⟩
    · rw [if_neg (by simpa using hvb)]
      exact hN _ ⟨_, _, _, rfl, .un, .un, .un⟩
  · rintro ρ ⟨x, y, z, rfl, hx, hy, hz⟩
    have hd : ∀ i, CDivW i b := fun i => ⟨h0, by
      have z : b.natAbs ≠ 0 := by omega
      exact Nat.lt_of_lt_of_le ((Nat.log2_lt z).mpr (by omega : b.natAbs < 2 ^ 64)) (by decide)⟩
    have dv : ∀ i : Int, 0 ≤ i → 0 ≤ i / b := fun i hi => Int.ediv_nonneg hi (Int.le_of_lt h0)
    rcases hx with rfl | ⟨x, rfl⟩ <;> rcases hy with rfl | ⟨y, rfl⟩ <;> rcases hz with rfl | ⟨z, rfl⟩ <;>
      (simp only [dRet, dAnd, dOr, dNot, dIf, dAndT, dOrT, dNotT, dTest, dChain, dIsi, dVar, dC, dOp, dUn, dTup, dLst, dCons, dNil, dCallB, dCall, dCallP, dSl, dSlS, dPart, dNoPart, dLc, dSet, dIfS, dFor, dAsg, dPar, dApp, dSetIx, dDrop, dSeq, dNext, dStore, diSeq, diRange1, diRange2, diZip, gdName, gdTup, gdCons, gdNil, dYes, oI, oI0, oLe, oGt, oGe, OpdData, toDs, isT_int, isT_bool, isT_tuple, isT_str, List.map_cons, List.map_nil, List.getElem?_cons_zero, List.getElem?_cons_succ, List.set_cons_zero, List.set_cons_succ, dPotI, dPotSet, oInt]
       exact ⟨by trivial, fun v hv => ⟨h0, rfl, by trivial, fun w hw => ⟨hd _, by trivial, _, rfl, dv w hw, by trivial, fun u hu => ⟨hd _, by trivial, _, rfl, dv u hu, q _ (Int.emod_nonneg _ (Int.ne_of_gt h0)) (Int.emod_lt_of_pos _ h0)⟩⟩⟩⟩)
def c_pick : DC := fun xs Q => ∃ ds, xs = [.list ds] ∧ 0 < ds.length ∧ ds.length ≤ 1000 ∧ ∀ d ∈ ds, Q (.k d)
theorem ok_pick (T : Txt K mg) (G__law_below : OkP P w K mg base "_law_below" s__law_below ["pot", "bound"] 2 c_below) : OkP P w K mg base "_law_pick" s__law_pick ["pot", "items"] 3 c_pick := by
  refine okP T.d__law_pick sc__law_pick (fun xs QD ⟨b, e, _⟩ => by rw [e]; rfl) (by decide) fun f cdv A outer s H E hg hr => ⟨_, (ds_one (ds_ret (de_ix (de_var 1) (de_fnP 0 G__law_below hg (hr.mono (by decide)) (da_cons (de_callB cr_len cd_len rfl T.m_len (by decide +kernel) (da_cons (de_var 1) da_nil)) da_nil))))), fun xs QD ⟨ds, e, h0, h1, q⟩ => ?_⟩
  subst e
  show dRet _ _ [.pot, .sh (.list ds)]
  simp only [dRet, dAnd, dOr, dNot, dIf, dAndT, dOrT, dNotT, dTest, dChain, dIsi, dVar, dC, dOp, dUn, dTup, dLst, dCons, dNil, dCallB, dCall, dCallP, dSl, dSlS, dPart, dNoPart, dLc, dSet, dIfS, dFor, dAsg, dPar, dApp, dSetIx, dDrop, dSeq, dNext, dStore, diSeq, diRange1, diRange2, diZip, gdName, gdTup, gdCons, gdNil, dYes, oI, oI0, oLe, oGt, oGe, OpdData, toDs, isT_int, isT_bool, isT_tuple, isT_str, List.map_cons, List.map_nil, List.getElem?_cons_zero, List.getElem?_cons_succ, List.set_cons_zero, List.set_cons_succ, oIx, oLen, c_below]
  refine ⟨trivial, _, rfl, ds.length, rfl, by omega, by omega, fun r r0 r1 => ?_⟩
  obtain ⟨j, rfl⟩ := Int.eq_ofNat_of_zero_le r0
  have hj : j < ds.length := by omega
  exact ⟨ds[j], atI_nat (List.getElem?_eq_getElem hj), q _ (List.getElem_mem _)⟩
theorem cut17 (ns : List Int) : cutD (ns.map PyData.int) none (some 17) = (ns.take 17).map PyData.int := by
  rw [show (some (17 : Int)) = some ((17 : Nat) : Int) from rfl, cutD_to, List.map_take]
theorem cutD_mid (ds : List PyData) (j k : Nat) : cutD ds (some (j : Int)) (some (k : Int)) = (ds.drop j).take (k - j) := by
  unfold DL.cutD
  rw [HT.sIx_nat, HT.sIx_nat]
  refine List.ext_getElem? fun i => ?_
  rw [List.getElem?_take, List.getElem?_take, List.getElem?_drop, List.getElem?_drop]
  by_cases hj : j ≤ ds.length
  · rw [Nat.min_eq_left hj]
    by_cases h1 : i < min k ds.length - j
    · rw [if_pos h1, if_pos (by omega)]
    · rw [if_neg h1]
      by_cases h2 : i < k - j
      · rw [if_pos h2, List.getElem?_eq_none (by omega)]
      · rw [if_neg h2]
  · rw [show min j ds.length = ds.length by omega, List.getElem?_eq_none (by omega), List.getElem?_eq_none (by omega)]
    split <;> split <;> rfl
theorem cut60 (ns : List Int) : cutD (ns.map PyData.int) (some 17) (some 60) = ((ns.drop 17).take 43).map PyData.int := by
  rw [show (some (17 : Int)) = some ((17 : Nat) : Int) from rfl, show (some (60 : Int)) = some ((60 : Nat) : Int) from rfl, cutD_mid, List.map_take, List.map_drop]
theorem ixN_emod {n : Nat} (k : Int) (h : 0 < (n : Int)) : ∃ j, ixN n (k % (n : Int)) = some j ∧ j < n := by
  have h1 := Int.emod_nonneg k (Int.ne_of_gt h)
  have h2 := Int.emod_lt_of_pos k h
  obtain ⟨j, hj⟩ := Int.eq_ofNat_of_zero_le h1
  refine ⟨j, ?_, by omega⟩
  rw [hj]
  unfold ixN
  rw [if_pos (by omega), if_pos (by omega), Int.toNat_natCast]
theorem mem_set {α : Type} {xs : List α} {j : Nat} {a b : α} (h : b ∈ xs.set j a) : b = a ∨ b ∈ xs := by
  rcases List.mem_or_eq_of_mem_set h with z | z
  · exact .inr z
  · exact .inl z
theorem ok_pot_of (T : Txt K mg) : OkD P w K mg base "_law_pot_of" s__law_pot_of ["script"] 1 c_pot_of := by
  refine okD T.d__law_pot_of sc__law_pot_of (fun xs QD ⟨b, e, _⟩ => by rw [e]; rfl) (by decide) fun f cdv A outer s H E hg hr => ⟨_, (ds_cons (ds_setLc (i := 1) (own := [("cell", 3)]) rfl sc__law_pot_of.nd (di_seq (de_slS (de_var 0) do_none (do_some de_int))) (blkOk_by (N := ["script", "cells", "place", "cell"]) (sc := defScope s__law_pot_of) (by decide +kernel)) (fun _ _ _ _ _ => (dg_name (i := 3) sc__law_pot_of.nd)) (fun _ _ _ _ _ => pts_yes) (fun _ _ _ _ _ => (de_callB call_abs cd_abs rfl T.m_abs (by decide +kernel) (da_cons (de_var 3) da_nil))) (by decide) (hsw := sw_true rfl rfl rfl (by decide +kernel))) (ds_cons (ds_for PassesOwn.never rfl (di_enumerate rfl T.m_enumerate (da_cons (de_slS (de_var 0) (do_some de_int) (do_some de_int)) da_nil)) (dg_tup (n := 2) rfl (dgs_cons (dg_name (i := 2) sc__law_pot_of.nd) (dgs_cons (dg_name (i := 3) sc__law_pot_of.nd) dgs_nil))) (ds_one (ds_setIxS (de_add (de_ix (de_var 1) (de_mod (de_var 2) de_int)) (de_callB call_abs cd_abs rfl T.m_abs (by decide +kernel) (da_cons (de_var 3) da_nil))) (de_var 1) (de_mod (de_var 2) de_int) fun _ _ _ a b c => ps_asg a (pg_sub b c set_list)))) (ds_frz 1 (ds_one (ds_ret (de_lst (da_cons (de_var 1) (da_cons de_int (da_cons de_int (da_cons de_int da_nil)))))))))), fun xs QD ⟨ns, e, h1, q⟩ => ?_⟩
  subst e
  show dSeq _ _ _ [.sh (.dict [(.none, .list (ns.map PyData.int))]), .un, .un, .un]
  simp only [dRet, dAnd, dOr, dNot, dIf, dAndT, dOrT, dNotT, dTest, dChain, dIsi, dVar, dC, dOp, dUn, dTup, dLst, dCons, dNil, dCallB, dCall, dCallP, dSl, dSlS, dPart, dNoPart, dLc, dSet, dIfS, dFor, dAsg, dPar, dApp, dSetIx, dDrop, dSeq, dNext, dStore, diSeq, diRange1, diRange2, diZip, gdName, gdTup, gdCons, gdNil, dYes, oI, oI0, oLe, oGt, oGe, OpdData, toDs, isT_int, isT_bool, isT_tuple, isT_str, List.map_cons, List.map_nil, List.getElem?_cons_zero, List.getElem?_cons_succ, List.set_cons_zero, List.set_cons_succ, oSlS, oAbs]
  simp only [cut17, seqOwn, dRet, dLst]
  have ab : ∀ i : Int, 0 ≤ (if i < 0 then -i else i) := fun i => by split <;> omega
  refine ⟨rfl, by rw [List.length_map, List.length_take]; omega, lcW_all (fun d => ∃ c : Int, d = .int c ∧ 0 ≤ c) (fun d hd N hN => ?_) fun rs hrs hrl => ?_⟩
  · obtain ⟨i, _, rfl⟩ := List.mem_map.mp hd
    simp only [dRet, dAnd, dOr, dNot, dIf, dAndT, dOrT, dNotT, dTest, dChain, dIsi, dVar, dC, dOp, dUn, dTup, dLst, dCons, dNil, dCallB, dCall, dCallP, dSl, dSlS, dPart, dNoPart, dLc, dSet, dIfS, dFor, dAsg, dPar, dApp, dSetIx, dDrop, dSeq, dNext, dStore, diSeq, diRange1, diRange2, diZip, gdName, gdTup, gdCons, gdNil, dYes, oI, oI0, oLe, oGt, oGe, OpdData, toDs, isT_int, isT_bool, isT_tuple, isT_str, List.map_cons, List.map_nil, List.getElem?_cons_zero, List.getElem?_cons_succ, List.set_cons_zero, List.set_cons_succ, wipeS, oAbs]
    exact ⟨rfl, _, rfl, hN _ ⟨_, rfl, ab i⟩⟩
  · obtain ⟨cs0, rfl, hc0⟩ := of_ints hrs
    refine ⟨rfl, ?_⟩
    rw [List.length_map, List.length_map, List.length_take] at hrl
    simp only [diEnum, dRet, dAnd, dOr, dNot, dIf, dAndT, dOrT, dNotT, dTest, dChain, dIsi, dVar, dC, dOp, dUn, dTup, dLst, dCons, dNil, dCallB, dCall, dCallP, dSl, dSlS, dPart, dNoPart, dLc, dSet, dIfS, dFor, dAsg, dPar, dApp, dSetIx, dDrop, dSeq, dNext, dStore, diSeq, diRange1, diRange2, diZip, gdName, gdTup, gdCons, gdNil, dYes, oI, oI0, oLe, oGt, oGe, OpdData, toDs, isT_int, isT_bool, isT_tuple, isT_str, List.map_cons, List.map_nil, List.getElem?_cons_zero, List.getElem?_cons_succ, List.set_cons_zero, List.set_cons_succ, oSlS, List.nil_append]
    simp only [cut60, enumOf, listOwn]
    refine ⟨_, _, rfl, rfl, forW_ind (fun ds ρ => (∀ d ∈ ds, ∃ i j : Int, d = .tuple [.int i, .int j]) ∧ (ds ≠ [] → 17 ≤ ns.length) ∧ ∃ (cs : List Int) (x y : Sl), ρ = [.sh (.dict [(.none, .list (ns.map PyData.int))]), .own (cs.map PyData.int), x, y] ∧ Pl x ∧ Pl y ∧ (∀ n ∈ cs, 0 ≤ n) ∧ cs.length = min 17 ns.length) ?_ ?_ ?_⟩
    · rintro d r ρ N ⟨hd, h17, cs, x, y, rfl, hx, hy, h0, hlen⟩ hN
      obtain ⟨i, j, rfl⟩ := hd _ List.mem_cons_self
      have hr := fun d' h' => hd d' (List.mem_cons_of_mem _ h')
      have h17 := h17 (by simp)
      have hc : cs.length = 17 := by omega
      obtain ⟨c, hc1, hc2⟩ := at_emod cs i (by omega)
      obtain ⟨k, hk, hk2⟩ := ixN_emod (n := (cs.map PyData.int).length) i (by rw [List.length_map]; omega)
      rw [hc] at hc2
      rw [List.length_map, hc] at hk
      have fin := hN [.sh (.dict [(.none, .list (ns.map PyData.int))]), .own ((cs.set k (c + (if j < 0 then -j else j))).map PyData.int), .sh (.int i), .sh (.int j)]
        ⟨hr, fun _ => h17, _, _, _, rfl, .sh _, .sh _, fun n hn => by
          rcases mem_set hn with rfl | hn
          · exact Int.add_nonneg (h0 c hc1) (ab j)
          · exact h0 n hn, by rw [List.length_set]; exact hlen⟩
      rw [List.map_set] at fin
      rcases hx with rfl | ⟨x, rfl⟩ <;> rcases hy with rfl | ⟨y, rfl⟩ <;>
        (simp only [dRet, dAnd, dOr, dNot, dIf, dAndT, dOrT, dNotT, dTest, dChain, dIsi, dVar, dC, dOp, dUn, dTup, dLst, dCons, dNil, dCallB, dCall, dCallP, dSl, dSlS, dPart, dNoPart, dLc, dSet, dIfS, dFor, dAsg, dPar, dApp, dSetIx, dDrop, dSeq, dNext, dStore, diSeq, diRange1, diRange2, diZip, gdName, gdTup, gdCons, gdNil, dYes, oI, oI0, oLe, oGt, oGe, OpdData, toDs, isT_int, isT_bool, isT_tuple, isT_str, List.map_cons, List.map_nil, List.getElem?_cons_zero, List.getElem?_cons_succ, List.set_cons_zero, List.set_cons_succ, oIx, oAdd, oAbs, oInt]
         exact ⟨rfl, rfl, rfl, by decide, .int c, hc2, _, rfl, by decide, k, by rw [List.length_map, hc]; exact hk, fin⟩)
    · rintro ρ ⟨_, _, cs, x, y, rfl, hx, hy, h0, hlen⟩
      have fin := q cs h0 (by omega)
      rcases hx with rfl | ⟨x, rfl⟩ <;> rcases hy with rfl | ⟨y, rfl⟩ <;>
        (simp only [dFrz, dRet, dAnd, dOr, dNot, dIf, dAndT, dOrT, dNotT, dTest, dChain, dIsi, dVar, dC, dOp, dUn, dTup, dLst, dCons, dNil, dCallB, dCall, dCallP, dSl, dSlS, dPart, dNoPart, dLc, dSet, dIfS, dFor, dAsg, dPar, dApp, dSetIx, dDrop, dSeq, dNext, dStore, diSeq, diRange1, diRange2, diZip, gdName, gdTup, gdCons, gdNil, dYes, oI, oI0, oLe, oGt, oGe, OpdData, toDs, isT_int, isT_bool, isT_tuple, isT_str, List.map_cons, List.map_nil, List.getElem?_cons_zero, List.getElem?_cons_succ, List.set_cons_zero, List.set_cons_succ]
         exact ⟨rfl, _, rfl, (by decide : 4 ≤ 100000), fin⟩)
    · refine ⟨fun d hd => ?_, fun z => ?_, cs0, .un, .un, rfl, .un, .un, hc0, hrl⟩
      · unfold enumD at hd
        obtain ⟨p, hp, rfl⟩ := List.mem_map.mp hd
        obtain ⟨j, _, hj⟩ := List.mem_map.mp (List.fst_mem_of_mem_zipIdx hp)
        exact ⟨p.2, j, by rw [hj]⟩
      · refine Nat.le_of_not_lt fun h => z ?_
        rw [List.drop_eq_nil_of_le (by omega)]
        rfl
end
end K02

namespace K02
open PySem PySem.Spec PyProof.Rows L2 DL
section
variable {P : Program} {w : World} {K : PySem.W.Frag} {mg : Str → Option Value} {base : Heap}
/-- pairs of small numbers -/
def smallPair (d : PyData) : Prop := ∃ a b : Int, d = .tuple [.int a, .int b] ∧ 0 ≤ a ∧ a < 8 ∧ 0 ≤ b ∧ b < 8
def c_pairs : DC := fun xs Q => ∃ m : Int, xs = [.int m] ∧ 0 ≤ m ∧ m ≤ 8 ∧ ∀ ps : List PyData, (∀ d ∈ ps, smallPair d) → ps.length ≤ 64 → Q (.f ps)
theorem rangeD_mem {lo hi : Int} {d : PyData} (h : d ∈ rangeD lo hi) : ∃ i : Int, d = .int i ∧ lo ≤ i ∧ i < hi := by
  unfold rangeD at h
  obtain ⟨i, hi, rfl⟩ := List.mem_map.mp h
  have := List.mem_range.mp hi
  exact ⟨_, rfl, by omega, by omega⟩
theorem rangeD_len (lo hi : Int) : (rangeD lo hi).length = (hi - lo).toNat := by unfold rangeD; simp
theorem ok_pairs (T : Txt K mg) : OkD P w K mg base "_law_pairs" s__law_pairs ["many"] 1 c_pairs := by
  refine okD T.d__law_pairs sc__law_pairs (fun xs QD ⟨m, e, _⟩ => by rw [e]; rfl) (by decide) fun f cdv A outer s H E hg hr => ⟨_, (ds_cons (ds_set (i := 1) sc__law_pairs.nd (de_lst da_nil)) (ds_cons (ds_for PassesOwn.never rfl (di_range1 rfl T.m_range (da_cons (de_var 0) da_nil)) (dg_name (i := 2) sc__law_pairs.nd) (ds_one (ds_set (i := 1) sc__law_pairs.nd (de_add (de_var 1) (de_lc (own := [("other", 3)]) rfl sc__law_pairs.nd (di_range2 rfl T.m_range (da_cons (de_add (de_var 2) de_int) (da_cons (de_var 0) da_nil))) (blkOk_by (N := ["many", "found", "one", "other"]) (sc := defScope s__law_pairs) (by decide +kernel)) (fun _ _ _ _ _ => (dg_name (i := 3) sc__law_pairs.nd)) (fun _ _ _ _ _ => pts_yes) (fun _ _ _ _ _ => (de_tup (da_cons (de_var 2) (da_cons (de_var 3) da_nil)))) (by decide)))))) (ds_one (ds_ret (de_var 1))))), fun xs QD ⟨m, e, h0, h1, q⟩ => ?_⟩
  subst e
  show dSeq _ _ _ [.sh (.int m), .un, .un, .un]
  simp only [dRet, dAnd, dOr, dNot, dIf, dAndT, dOrT, dNotT, dTest, dChain, dIsi, dVar, dC, dOp, dUn, dTup, dLst, dCons, dNil, dCallB, dCall, dCallP, dSl, dSlS, dPart, dNoPart, dLc, dSet, dIfS, dFor, dAsg, dPar, dApp, dSetIx, dDrop, dSeq, dNext, dStore, diSeq, diRange1, diRange2, diZip, gdName, gdTup, gdCons, gdNil, dYes, oI, oI0, oLe, oGt, oGe, OpdData, toDs, isT_int, isT_bool, isT_tuple, isT_str, List.map_cons, List.map_nil, List.getElem?_cons_zero, List.getElem?_cons_succ, List.set_cons_zero, List.set_cons_succ, oAdd]
  refine ⟨[], rfl, by decide, rfl, by omega, by omega, by trivial, forW_ind (fun ds ρ => (∀ d ∈ ds, ∃ i : Int, d = .int i ∧ 0 ≤ i ∧ i < m) ∧ ∃ (ps : List PyData) (x : Sl), ρ = [.sh (.int m), .own ps, x, .un] ∧ Pl x ∧ (∀ d ∈ ps, smallPair d) ∧ ps.length + 8 * ds.length ≤ 64) ?_ ?_ ?_⟩
  · rintro d r ρ N ⟨hd, ps, x, rfl, hx, hp, hl⟩ hN
    obtain ⟨i, rfl, hi0, him⟩ := hd _ List.mem_cons_self
    rw [List.length_cons] at hl
    rcases hx with rfl | ⟨x, rfl⟩ <;>
      (simp only [dRet, dAnd, dOr, dNot, dIf, dAndT, dOrT, dNotT, dTest, dChain, dIsi, dVar, dC, dOp, dUn, dTup, dLst, dCons, dNil, dCallB, dCall, dCallP, dSl, dSlS, dPart, dNoPart, dLc, dSet, dIfS, dFor, dAsg, dPar, dApp, dSetIx, dDrop, dSeq, dNext, dStore, diSeq, diRange1, diRange2, diZip, gdName, gdTup, gdCons, gdNil, dYes, oI, oI0, oLe, oGt, oGe, OpdData, toDs, isT_int, isT_bool, isT_tuple, isT_str, List.map_cons, List.map_nil, List.getElem?_cons_zero, List.getElem?_cons_succ, List.set_cons_zero, List.set_cons_succ, oAdd, oInt]
       refine ⟨rfl, by omega, by omega, by omega, by omega, rfl, by rw [rangeD_len]; omega, lcW_all smallPair (fun d hd N2 hN2 => ?_) fun rs hrs hrl => ⟨by rw [List.nil_append]; rw [rangeD_len] at hrl; omega, rfl, hN _ ⟨fun d' h' => hd d' (List.mem_cons_of_mem _ h'), _, _, rfl, .sh _, fun d hd => ?_, ?_⟩⟩⟩
       · obtain ⟨j, rfl, hj0, hj1⟩ := rangeD_mem hd
         simp only [dRet, dAnd, dOr, dNot, dIf, dAndT, dOrT, dNotT, dTest, dChain, dIsi, dVar, dC, dOp, dUn, dTup, dLst, dCons, dNil, dCallB, dCall, dCallP, dSl, dSlS, dPart, dNoPart, dLc, dSet, dIfS, dFor, dAsg, dPar, dApp, dSetIx, dDrop, dSeq, dNext, dStore, diSeq, diRange1, diRange2, diZip, gdName, gdTup, gdCons, gdNil, dYes, oI, oI0, oLe, oGt, oGe, OpdData, toDs, isT_int, isT_bool, isT_tuple, isT_str, List.map_cons, List.map_nil, List.getElem?_cons_zero, List.getElem?_cons_succ, List.set_cons_zero, List.set_cons_succ, wipeS]
         exact ⟨rfl, [.int i, .int j], rfl, (by decide : 2 ≤ 100000), _, rfl, hN2 _ ⟨i, j, rfl, by omega, by omega, by omega, by omega⟩⟩
       · rcases List.mem_append.mp hd with z | z
         · exact hp d z
         · exact hrs d z
       · rw [rangeD_len] at hrl
         rw [List.length_append, List.nil_append]
         omega)
  · rintro ρ ⟨_, ps, x, rfl, hx, hp, hl⟩
    rw [List.length_nil] at hl
    rcases hx with rfl | ⟨x, rfl⟩ <;> exact q ps hp (by omega)
  · refine ⟨fun d hd => ?_, [], .un, rfl, .un, (fun d h => nomatch h), ?_⟩
    · obtain ⟨i, rfl, a, b⟩ := rangeD_mem hd
      exact ⟨i, rfl, a, b⟩
    · rw [rangeD_len, List.length_nil]
      omega
theorem smallPair_low {d : PyData} (h : smallPair d) : lowD 1 d = true := by
  obtain ⟨a, b, rfl, _⟩ := h
  exact lowD_tup (n := 0) fun d hd => by
    rcases List.mem_cons.mp hd with rfl | hd
    · exact lowD_int a
    · rw [List.mem_singleton.mp hd]; exact lowD_int b
theorem ixN_nn {n : Nat} {i : Int} (h0 : 0 ≤ i) (h1 : i < n) : ixN n i = some i.toNat := by
  unfold ixN
  rw [if_pos h0, if_pos h1]
/-- numbers as they are drawn -/
def drawnNum (d : PyData) : Prop := d = .none ∨ ∃ i : Int, d = .int i ∧ 0 ≤ i ∧ i < 1000
structure Pty (L : Nat) (ns ms as : List PyData) : Prop where
  n1 : 1 ≤ ns.length
  n8 : ns.length ≤ 8
  num : ∀ d ∈ ns, drawnNum d
  ml : ms.length ≤ L
  al : as.length ≤ L
  mp : ∀ d ∈ ms, smallPair d
  ap : ∀ d ∈ as, smallPair d
def c_some_party : DC := fun xs Q => ∃ m : Int, xs = [.int m] ∧ 1 ≤ m ∧ m ≤ 8 ∧ ∀ ns ms as, Pty 64 ns ms as → Q (.k (.tuple [.tuple ns, .tuple ms, .tuple as]))
theorem ok_some_party (T : Txt K mg) (G__law_below : OkP P w K mg base "_law_below" s__law_below ["pot", "bound"] 2 c_below) (G__law_pick : OkP P w K mg base "_law_pick" s__law_pick ["pot", "items"] 3 c_pick) (G__law_pairs : OkD P w K mg base "_law_pairs" s__law_pairs ["many"] 1 c_pairs) :
    OkP P w K mg base "_law_some_party" s__law_some_party ["pot", "most"] 4 c_some_party := by
  refine okP T.d__law_some_party sc__law_some_party (fun xs QD ⟨b, e, _⟩ => by rw [e]; rfl) (by decide) fun f cdv A outer s H E hg hr => ⟨_, (ds_cons (ds_set (i := 2) sc__law_some_party.nd (de_add de_int (de_fnP 0 G__law_below hg (hr.mono (by decide)) (da_cons (de_var 1) da_nil)))) (ds_cons (ds_set (i := 3) sc__law_some_party.nd (de_fn G__law_pairs hg (hr.mono (by decide)) (da_cons (de_var 2) da_nil))) (ds_frz 3 (ds_cons (ds_set (i := 4) sc__law_some_party.nd (de_lc (own := [("pair", 9)]) rfl sc__law_some_party.nd (di_seq (de_var 3)) (blkOk_by (N := ["pot", "most", "many", "pairs", "chosen", "numbers", "person", "met", "apart", "pair", "choice", "some"]) (sc := defScope s__law_some_party) (by decide +kernel)) (fun _ _ _ _ _ => (dg_name (i := 9) sc__law_some_party.nd)) (fun _ _ _ _ _ => (pts_if (dt_cmp (cm_eq hr.units) (de_fnP 0 G__law_below hg (hr.mono (by decide)) (da_cons de_int da_nil)) de_int))) (fun _ _ _ _ _ => (de_var 9)) (by decide))) (ds_frz 4 (ds_cons (ds_setLc (i := 5) (own := [("person", 6)]) rfl sc__law_some_party.nd (di_range1 rfl T.m_range (da_cons (de_var 2) da_nil)) (blkOk_by (N := ["pot", "most", "many", "pairs", "chosen", "numbers", "person", "met", "apart", "pair", "choice", "some"]) (sc := defScope s__law_some_party) (by decide +kernel)) (fun _ _ _ _ _ => (dg_name (i := 6) sc__law_some_party.nd)) (fun _ _ _ _ _ => pts_yes) (fun _ _ _ _ _ => (de_callB cr_len cd_len rfl T.m_len (by decide +kernel) (da_cons (de_lc (own := [("pair", 9)]) rfl sc__law_some_party.nd (di_seq (de_var 4)) (blkOk_by (by kernel_rfl)) (fun _ _ _ _ _ => (dg_name (i := 9) sc__law_some_party.nd)) (fun _ _ _ _ _ => (pts_if (dt_cmp (cm_in (hu65 hr)) (de_var 6) (de_var 9)))) (fun _ _ _ _ _ => (de_var 9)) (by decide)) da_nil))) (by decide) (hsw := sw_true rfl rfl rfl (by decide +kernel))) (ds_cons (ds_for PassesOwn.never rfl (di_range1 rfl T.m_range (da_cons (de_var 2) da_nil)) (dg_name (i := 6) sc__law_some_party.nd) (ds_one (ds_if (dt_cmp (cm_eq hr.units) (de_fnP 0 G__law_below hg (hr.mono (by decide)) (da_cons de_int da_nil)) de_int) (ds_one (ds_setIxS de_non (de_var 5) (de_var 6) fun _ _ _ a b c => ps_asg a (pg_sub b c set_list))) ds_nil))) (ds_cons (ds_if (dt_cmp (cm_eq hr.units) (de_fnP 0 G__law_below hg (hr.mono (by decide)) (da_cons de_int da_nil)) de_int) (ds_one (ds_setIxS (de_fnP 0 G__law_pick hg (hr.mono (by decide)) (da_cons (de_lst (da_cons (de_fnP 0 G__law_below hg (hr.mono (by decide)) (da_cons (de_add (de_var 2) de_int) da_nil)) (da_cons (de_fnP 0 G__law_below hg (hr.mono (by decide)) (da_cons de_int da_nil)) (da_cons de_int da_nil)))) da_nil)) (de_var 5) (de_fnP 0 G__law_below hg (hr.mono (by decide)) (da_cons (de_var 2) da_nil)) fun _ _ _ a b c => ps_asg a (pg_sub b c set_list))) ds_nil) (ds_cons (ds_parS (i := 7) (j := 8) (de_lst da_nil) (de_lst da_nil) fun _ _ a b => ps_par rfl sc__law_some_party.nd rfl rfl (by decide) rfl rfl (pa_cons a (pa_cons b pa_nil)) (by rfl)) (ds_cons (ds_for PassesOwn.never rfl (di_seq (de_var 3)) (dg_name (i := 9) sc__law_some_party.nd) (ds_cons (ds_set (i := 10) sc__law_some_party.nd (de_fnP 0 G__law_below hg (hr.mono (by decide)) (da_cons de_int da_nil))) (ds_one (ds_if (dt_cmp (cm_lt hr.units) (de_var 10) de_int) (ds_cons (ds_set (i := 11) sc__law_some_party.nd (de_if (dt_cmp (cm_in (hu65 hr)) (de_var 9) (de_var 4)) (de_var 7) (de_var 8))) (ds_one (ds_appS (de_var 11) (de_var 9) fun _ _ a b => ps_expr (pe_bm PySem.F.plainAttrs_list PySem.F.slot_list_append PySem.F.type_list_append mt_append a (pa_cons b pa_nil))))) (ds_one (ds_if (dt_w (dw_and (dt_cmp (cm_eq hr.units) (de_var 10) de_int) (dw_and1 (dt_cmp (cm_eq hr.units) (de_fnP 0 G__law_below hg (hr.mono (by decide)) (da_cons de_int da_nil)) de_int)))) (ds_cons (ds_set (i := 11) sc__law_some_party.nd (de_if (dt_cmp (cm_in (hu65 hr)) (de_var 9) (de_var 4)) (de_var 8) (de_var 7))) (ds_one (ds_appS (de_var 11) (de_var 9) fun _ _ a b => ps_expr (pe_bm PySem.F.plainAttrs_list PySem.F.slot_list_append PySem.F.type_list_append mt_append a (pa_cons b pa_nil))))) ds_nil)))))) (ds_one (ds_ret (de_tup (da_cons (de_callTy call_tuple_of cd_tuple rfl T.m_tuple (by decide +kernel) (da_cons (de_var 5) da_nil)) (da_cons (de_callTy call_tuple_of cd_tuple rfl T.m_tuple (by decide +kernel) (da_cons (de_var 7) da_nil)) (da_cons (de_callTy call_tuple_of cd_tuple rfl T.m_tuple (by decide +kernel) (da_cons (de_var 8) da_nil)) da_nil)))))))))))))))), fun xs QD ⟨m, e, h0, h1, q⟩ => ?_⟩
  subst e
  show dSeq _ _ _ (.pot :: .sh (.int m) :: List.replicate 10 .un)
  simp only [List.replicate]
  refine dSeq_cut (fun ρ => ∃ k : Int, 1 ≤ k ∧ k ≤ 8 ∧ ρ = [.pot, .sh (.int m), .sh (.int k), .un, .un, .un, .un, .un, .un, .un, .un, .un]) (fun N hN => ?_) ?_
  · simp only [dRet, dAnd, dOr, dNot, dIf, dAndT, dOrT, dNotT, dTest, dChain, dIsi, dVar, dC, dOp, dUn, dTup, dLst, dCons, dNil, dCallB, dCall, dCallP, dSl, dSlS, dPart, dNoPart, dLc, dSet, dIfS, dFor, dAsg, dPar, dApp, dSetIx, dDrop, dSeq, dNext, dStore, diSeq, diRange1, diRange2, diZip, gdName, gdTup, gdCons, gdNil, dYes, oI, oI0, oLe, oGt, oGe, OpdData, toDs, isT_int, isT_bool, isT_tuple, isT_str, List.map_cons, List.map_nil, List.getElem?_cons_zero, List.getElem?_cons_succ, List.set_cons_zero, List.set_cons_succ, oAdd, c_below]
    exact ⟨by trivial, _, rfl, m, rfl, by omega, by omega, fun r hr0 hr1 => ⟨rfl, hN _ ⟨1 + r, by omega, by omega, rfl⟩⟩⟩
  rintro ρ ⟨k, hk1, hk8, rfl⟩
  refine dSeq_cut (fun ρ => ∃ ps : List PyData, (∀ d ∈ ps, smallPair d) ∧ ps.length ≤ 64 ∧ ρ = [.pot, .sh (.int m), .sh (.int k), .own ps, .un, .un, .un, .un, .un, .un, .un, .un]) (fun N hN => ?_) ?_
  · simp only [dRet, dAnd, dOr, dNot, dIf, dAndT, dOrT, dNotT, dTest, dChain, dIsi, dVar, dC, dOp, dUn, dTup, dLst, dCons, dNil, dCallB, dCall, dCallP, dSl, dSlS, dPart, dNoPart, dLc, dSet, dIfS, dFor, dAsg, dPar, dApp, dSetIx, dDrop, dSeq, dNext, dStore, diSeq, diRange1, diRange2, diZip, gdName, gdTup, gdCons, gdNil, dYes, oI, oI0, oLe, oGt, oGe, OpdData, toDs, isT_int, isT_bool, isT_tuple, isT_str, List.map_cons, List.map_nil, List.getElem?_cons_zero, List.getElem?_cons_succ, List.set_cons_zero, List.set_cons_succ, c_pairs]
    exact ⟨_, rfl, k, rfl, by omega, hk8, fun ps hp hl => ⟨rfl, hN _ ⟨ps, hp, hl, rfl⟩⟩⟩
  rintro ρ ⟨ps, hp, hpl, rfl⟩
  refine ⟨rfl, ?_⟩
  dsimp only [List.set_cons_zero, List.set_cons_succ]
  refine dSeq_cut (fun ρ => ∃ cs : List PyData, (∀ d ∈ cs, smallPair d) ∧ cs.length ≤ 64 ∧ ρ = [.pot, .sh (.int m), .sh (.int k), .sh (.list ps), .own cs, .un, .un, .un, .un, .un, .un, .un]) (fun N hN => ?_) ?_
  · simp only [dRet, dAnd, dOr, dNot, dIf, dAndT, dOrT, dNotT, dTest, dChain, dIsi, dVar, dC, dOp, dUn, dTup, dLst, dCons, dNil, dCallB, dCall, dCallP, dSl, dSlS, dPart, dNoPart, dLc, dSet, dIfS, dFor, dAsg, dPar, dApp, dSetIx, dDrop, dSeq, dNext, dStore, diSeq, diRange1, diRange2, diZip, gdName, gdTup, gdCons, gdNil, dYes, oI, oI0, oLe, oGt, oGe, OpdData, toDs, isT_int, isT_bool, isT_tuple, isT_str, List.map_cons, List.map_nil, List.getElem?_cons_zero, List.getElem?_cons_succ, List.set_cons_zero, List.set_cons_succ, seqOwn, oEq, c_below]
    refine ⟨rfl, by omega, lcW_any smallPair (fun d hd N2 hn hz => ?_) fun rs hrs hrl => ⟨rfl, hN _ ⟨rs, hrs, by omega, rfl⟩⟩⟩
    simp only [dRet, dAnd, dOr, dNot, dIf, dAndT, dOrT, dNotT, dTest, dChain, dIsi, dVar, dC, dOp, dUn, dTup, dLst, dCons, dNil, dCallB, dCall, dCallP, dSl, dSlS, dPart, dNoPart, dLc, dSet, dIfS, dFor, dAsg, dPar, dApp, dSetIx, dDrop, dSeq, dNext, dStore, diSeq, diRange1, diRange2, diZip, gdName, gdTup, gdCons, gdNil, dYes, oI, oI0, oLe, oGt, oGe, OpdData, toDs, isT_int, isT_bool, isT_tuple, isT_str, List.map_cons, List.map_nil, List.getElem?_cons_zero, List.getElem?_cons_succ, List.set_cons_zero, List.set_cons_succ, wipeS, oEq, c_below]
    refine ⟨rfl, by trivial, _, rfl, 2, rfl, by decide, by decide, fun r hr0 hr1 => ⟨shp_int _, shp_int _, ?_⟩⟩
    split
    · exact ⟨_, rfl, hz _ (hp d hd)⟩
    · exact hn
  rintro ρ ⟨cs, hc, hcl, rfl⟩
  refine ⟨rfl, ?_⟩
  dsimp only [List.set_cons_zero, List.set_cons_succ]
  refine dSeq_cut (fun ρ => ∃ ns : List PyData, (∀ d ∈ ns, drawnNum d) ∧ ns.length = k.toNat ∧ ρ = [.pot, .sh (.int m), .sh (.int k), .sh (.list ps), .sh (.list cs), .own ns, .un, .un, .un, .un, .un, .un]) (fun N hN => ?_) ?_
  · simp only [dRet, dAnd, dOr, dNot, dIf, dAndT, dOrT, dNotT, dTest, dChain, dIsi, dVar, dC, dOp, dUn, dTup, dLst, dCons, dNil, dCallB, dCall, dCallP, dSl, dSlS, dPart, dNoPart, dLc, dSet, dIfS, dFor, dAsg, dPar, dApp, dSetIx, dDrop, dSeq, dNext, dStore, diSeq, diRange1, diRange2, diZip, gdName, gdTup, gdCons, gdNil, dYes, oI, oI0, oLe, oGt, oGe, OpdData, toDs, isT_int, isT_bool, isT_tuple, isT_str, List.map_cons, List.map_nil, List.getElem?_cons_zero, List.getElem?_cons_succ, List.set_cons_zero, List.set_cons_succ]
    refine ⟨by omega, by omega, rfl, by rw [rangeD_len]; omega, lcW_all drawnNum (fun d hd N2 hN2 => ?_) fun rs hrs hrl => ⟨rfl, hN _ ⟨rs, hrs, by rw [hrl, rangeD_len]; simp, rfl⟩⟩⟩
    obtain ⟨i, rfl, _, _⟩ := rangeD_mem hd
    simp only [dRet, dAnd, dOr, dNot, dIf, dAndT, dOrT, dNotT, dTest, dChain, dIsi, dVar, dC, dOp, dUn, dTup, dLst, dCons, dNil, dCallB, dCall, dCallP, dSl, dSlS, dPart, dNoPart, dLc, dSet, dIfS, dFor, dAsg, dPar, dApp, dSetIx, dDrop, dSeq, dNext, dStore, diSeq, diRange1, diRange2, diZip, gdName, gdTup, gdCons, gdNil, dYes, oI, oI0, oLe, oGt, oGe, OpdData, toDs, isT_int, isT_bool, isT_tuple, isT_str, List.map_cons, List.map_nil, List.getElem?_cons_zero, List.getElem?_cons_succ, List.set_cons_zero, List.set_cons_succ, wipeS, seqOwn]
    refine ⟨rfl, rfl, by omega, lcW_any smallPair (fun d hd N3 hn hz => ?_) fun rs hrs hrl => ?_⟩
    · obtain ⟨a, b, rfl, _⟩ := hc d hd
      simp only [dRet, dAnd, dOr, dNot, dIf, dAndT, dOrT, dNotT, dTest, dChain, dIsi, dVar, dC, dOp, dUn, dTup, dLst, dCons, dNil, dCallB, dCall, dCallP, dSl, dSlS, dPart, dNoPart, dLc, dSet, dIfS, dFor, dAsg, dPar, dApp, dSetIx, dDrop, dSeq, dNext, dStore, diSeq, diRange1, diRange2, diZip, gdName, gdTup, gdCons, gdNil, dYes, oI, oI0, oLe, oGt, oGe, OpdData, toDs, isT_int, isT_bool, isT_tuple, isT_str, List.map_cons, List.map_nil, List.getElem?_cons_zero, List.getElem?_cons_succ, List.set_cons_zero, List.set_cons_succ, wipeS, oIn]
      refine ⟨rfl, shp_int _, lowD_shp (n := 1) (lowD_tup (n := 0) fun d hd => by
        rcases List.mem_cons.mp hd with rfl | hd
        · exact lowD_int a
        · rw [List.mem_singleton.mp hd]; exact lowD_int b), ?_⟩
      split
      · exact ⟨_, rfl, hz _ (hc _ hd)⟩
      · exact hn
    · simp only [oLen]
      exact ⟨_, rfl, hN2 _ (.inr ⟨_, rfl, by omega, by rw [List.nil_append]; omega⟩)⟩
  rintro ρ ⟨ns, hn, hnl, rfl⟩
  refine dSeq_cut (fun ρ => ∃ (ns : List PyData) (x : Sl), (∀ d ∈ ns, drawnNum d) ∧ ns.length = k.toNat ∧ Pl x ∧ ρ = [.pot, .sh (.int m), .sh (.int k), .sh (.list ps), .sh (.list cs), .own ns, x, .un, .un, .un, .un, .un]) (fun N hN => ?_) ?_
  · simp only [dRet, dAnd, dOr, dNot, dIf, dAndT, dOrT, dNotT, dTest, dChain, dIsi, dVar, dC, dOp, dUn, dTup, dLst, dCons, dNil, dCallB, dCall, dCallP, dSl, dSlS, dPart, dNoPart, dLc, dSet, dIfS, dFor, dAsg, dPar, dApp, dSetIx, dDrop, dSeq, dNext, dStore, diSeq, diRange1, diRange2, diZip, gdName, gdTup, gdCons, gdNil, dYes, oI, oI0, oLe, oGt, oGe, OpdData, toDs, isT_int, isT_bool, isT_tuple, isT_str, List.map_cons, List.map_nil, List.getElem?_cons_zero, List.getElem?_cons_succ, List.set_cons_zero, List.set_cons_succ]
    refine ⟨by omega, by omega, by trivial, forW_ind (fun ds ρ => (∀ d ∈ ds, ∃ i : Int, d = .int i ∧ 0 ≤ i ∧ i < k) ∧ ∃ (ns : List PyData) (x : Sl), (∀ d ∈ ns, drawnNum d) ∧ ns.length = k.toNat ∧ Pl x ∧ ρ = [.pot, .sh (.int m), .sh (.int k), .sh (.list ps), .sh (.list cs), .own ns, x, .un, .un, .un, .un, .un]) ?_ ?_ ?_⟩
    · rintro d r ρ N2 ⟨hd, ns, x, hn, hnl, hx, rfl⟩ hN2
      obtain ⟨i, rfl, hi0, hi1⟩ := hd _ List.mem_cons_self
      have hr := fun d' h' => hd d' (List.mem_cons_of_mem _ h')
      rcases hx with rfl | ⟨x, rfl⟩ <;>
        (simp only [dRet, dAnd, dOr, dNot, dIf, dAndT, dOrT, dNotT, dTest, dChain, dIsi, dVar, dC, dOp, dUn, dTup, dLst, dCons, dNil, dCallB, dCall, dCallP, dSl, dSlS, dPart, dNoPart, dLc, dSet, dIfS, dFor, dAsg, dPar, dApp, dSetIx, dDrop, dSeq, dNext, dStore, diSeq, diRange1, diRange2, diZip, gdName, gdTup, gdCons, gdNil, dYes, oI, oI0, oLe, oGt, oGe, OpdData, toDs, isT_int, isT_bool, isT_tuple, isT_str, List.map_cons, List.map_nil, List.getElem?_cons_zero, List.getElem?_cons_succ, List.set_cons_zero, List.set_cons_succ, oEq, c_below]
         refine ⟨rfl, by trivial, _, rfl, 6, rfl, by decide, by decide, fun z hz0 hz1 => ⟨shp_int _, shp_int _, ?_⟩⟩
         split
         · refine ⟨_, rfl, i.toNat, ixN_nn hi0 (by omega), hN2 _ ⟨hr, _, _, fun d hd => ?_, by rw [List.length_set]; exact hnl, .sh _, rfl⟩⟩
           rcases mem_set hd with rfl | hd
           · exact .inl rfl
           · exact hn d hd
         · exact hN2 _ ⟨hr, _, _, hn, hnl, .sh _, rfl⟩)
    · rintro ρ ⟨_, ns, x, hn, hnl, hx, rfl⟩
      exact hN _ ⟨ns, x, hn, hnl, hx, rfl⟩
    · refine ⟨fun d hd => ?_, ns, .un, hn, hnl, .un, rfl⟩
      obtain ⟨i, rfl, a, b⟩ := rangeD_mem hd
      exact ⟨i, rfl, a, b⟩
  rintro ρ ⟨ns, x, hn, hnl, hx, rfl⟩
  refine dSeq_cut (fun ρ => ∃ (ns : List PyData) (x : Sl), (∀ d ∈ ns, drawnNum d) ∧ ns.length = k.toNat ∧ Pl x ∧ ρ = [.pot, .sh (.int m), .sh (.int k), .sh (.list ps), .sh (.list cs), .own ns, x, .un, .un, .un, .un, .un]) (fun N hN => ?_) ?_
  · rcases hx with rfl | ⟨x, rfl⟩ <;>
      (simp only [dRet, dAnd, dOr, dNot, dIf, dAndT, dOrT, dNotT, dTest, dChain, dIsi, dVar, dC, dOp, dUn, dTup, dLst, dCons, dNil, dCallB, dCall, dCallP, dSl, dSlS, dPart, dNoPart, dLc, dSet, dIfS, dFor, dAsg, dPar, dApp, dSetIx, dDrop, dSeq, dNext, dStore, diSeq, diRange1, diRange2, diZip, gdName, gdTup, gdCons, gdNil, dYes, oI, oI0, oLe, oGt, oGe, OpdData, toDs, isT_int, isT_bool, isT_tuple, isT_str, List.map_cons, List.map_nil, List.getElem?_cons_zero, List.getElem?_cons_succ, List.set_cons_zero, List.set_cons_succ, oEq, oAdd, c_below, c_pick]
       refine ⟨by trivial, _, rfl, 3, rfl, by decide, by decide, fun z hz0 hz1 => ⟨shp_int _, shp_int _, ?_⟩⟩
       split
       · refine ⟨by trivial, by trivial, _, rfl, k + 1, rfl, by omega, by omega, fun z hz0 hz1 => ⟨by trivial, _, rfl, 21, rfl, by decide, by decide, fun y hy0 hy1 => ?_⟩⟩
         refine ⟨_, rfl, (by decide : 3 ≤ 100000), _, rfl, _, rfl, (by decide : 0 < 3), (by decide : 3 ≤ 1000), fun d hd => ⟨d, rfl, by trivial, _, rfl, k, rfl, by omega, by omega, fun r hr0 hr1 => ⟨r.toNat, ixN_nn hr0 (by omega), hN _ ⟨_, _, fun e he => ?_, by rw [List.length_set]; exact hnl, (by first | exact Pl.un | exact Pl.sh _), rfl⟩⟩⟩⟩
         rcases mem_set he with rfl | he
         · rcases List.mem_cons.mp hd with rfl | hd
           · exact .inr ⟨z, rfl, hz0, by omega⟩
           · rcases List.mem_cons.mp hd with rfl | hd
             · exact .inr ⟨y, rfl, hy0, by omega⟩
             · rw [List.mem_singleton.mp hd]
               exact .inr ⟨9, rfl, by decide, by decide⟩
         · exact hn e he
       · exact hN _ ⟨ns, _, hn, hnl, (by first | exact Pl.un | exact Pl.sh _), rfl⟩)
  rintro ρ ⟨ns, x, hn, hnl, hx, rfl⟩
  refine dSeq_cut (fun ρ => ∃ (x : Sl), Pl x ∧ ρ = [.pot, .sh (.int m), .sh (.int k), .sh (.list ps), .sh (.list cs), .own ns, x, .own [], .own [], .un, .un, .un]) (fun N hN => ?_) ?_
  · rcases hx with rfl | ⟨x, rfl⟩ <;>
      (simp only [dRet, dAnd, dOr, dNot, dIf, dAndT, dOrT, dNotT, dTest, dChain, dIsi, dVar, dC, dOp, dUn, dTup, dLst, dCons, dNil, dCallB, dCall, dCallP, dSl, dSlS, dPart, dNoPart, dLc, dSet, dIfS, dFor, dAsg, dPar, dApp, dSetIx, dDrop, dSeq, dNext, dStore, diSeq, diRange1, diRange2, diZip, gdName, gdTup, gdCons, gdNil, dYes, oI, oI0, oLe, oGt, oGe, OpdData, toDs, isT_int, isT_bool, isT_tuple, isT_str, List.map_cons, List.map_nil, List.getElem?_cons_zero, List.getElem?_cons_succ, List.set_cons_zero, List.set_cons_succ]
       exact ⟨[], rfl, (by decide : 0 ≤ 100000), [], rfl, (by decide : 0 ≤ 100000), ⟨_, rfl⟩, rfl, rfl, hN _ ⟨_, by first | exact Pl.un | exact Pl.sh _, rfl⟩⟩)
  rintro ρ ⟨x, hx, rfl⟩
  have sq : (∀ d ∈ cs, lowD 1 d = true) := fun d hd => smallPair_low (hc d hd)
  refine dSeq_cut (fun ρ => ∃ (ms as : List PyData) (x y z t : Sl), (∀ d ∈ ms, smallPair d) ∧ (∀ d ∈ as, smallPair d) ∧ ms.length ≤ 64 ∧ as.length ≤ 64 ∧ Pl x ∧ Pl y ∧ Pl z ∧ (t = .un ∨ t = .al 7 ∨ t = .al 8) ∧ ρ = [.pot, .sh (.int m), .sh (.int k), .sh (.list ps), .sh (.list cs), .own ns, x, .own ms, .own as, y, z, t]) (fun N hN => ?_) ?_
  · simp only [dFor, diSeq, dVar, List.getElem?_cons_succ, List.getElem?_cons_zero, seqOwn]
    refine ⟨trivial, forW_ind (fun ds ρ => (∀ d ∈ ds, smallPair d) ∧ ∃ (ms as : List PyData) (y z t : Sl), (∀ d ∈ ms, smallPair d) ∧ (∀ d ∈ as, smallPair d) ∧ ms.length + ds.length ≤ 64 ∧ as.length + ds.length ≤ 64 ∧ Pl y ∧ Pl z ∧ (t = .un ∨ t = .al 7 ∨ t = .al 8) ∧ ρ = [.pot, .sh (.int m), .sh (.int k), .sh (.list ps), .sh (.list cs), .own ns, x, .own ms, .own as, y, z, t]) ?_ ?_ ?_⟩
    · rintro d r ρ N2 ⟨hd, ms, as, y, z, t, hm, ha, hml, hal, hy, hz, ht, rfl⟩ hN2
      rw [List.length_cons] at hml hal
      have hd0 := hd _ List.mem_cons_self
      have hr := fun d' h' => hd d' (List.mem_cons_of_mem _ h')
      have add : ∀ {l : List PyData}, (∀ e ∈ l, smallPair e) → ∀ e ∈ l ++ [d], smallPair e := fun h e he => by
        rcases List.mem_append.mp he with z | z
        · exact h e z
        · rw [List.mem_singleton.mp z]; exact hd0
      have fm : ∀ v : Int, N2 [.pot, .sh (.int m), .sh (.int k), .sh (.list ps), .sh (.list cs), .own ns, x, .own (ms ++ [d]), .own as, .sh d, .sh (.int v), .al 7] := fun v =>
        hN2 _ ⟨hr, _, _, _, _, _, add hm, ha, by rw [List.length_append, List.length_singleton]; omega, by omega, .sh _, .sh _, .inr (.inl rfl), rfl⟩
      have fa : ∀ v : Int, N2 [.pot, .sh (.int m), .sh (.int k), .sh (.list ps), .sh (.list cs), .own ns, x, .own ms, .own (as ++ [d]), .sh d, .sh (.int v), .al 8] := fun v =>
        hN2 _ ⟨hr, _, _, _, _, _, hm, add ha, by omega, by rw [List.length_append, List.length_singleton]; omega, .sh _, .sh _, .inr (.inr rfl), rfl⟩
      have fn : ∀ v : Int, N2 [.pot, .sh (.int m), .sh (.int k), .sh (.list ps), .sh (.list cs), .own ns, x, .own ms, .own as, .sh d, .sh (.int v), t] := fun v =>
        hN2 _ ⟨hr, _, _, _, _, _, hm, ha, by omega, by omega, .sh _, .sh _, ht, rfl⟩
      have sd : shp d = true := lowD_shp (smallPair_low hd0)
      have sc : shp (.list cs) = true := lowD_shp (lowD_lst sq)
      rcases hx with rfl | ⟨x, rfl⟩ <;> rcases hy with rfl | ⟨y, rfl⟩ <;> rcases hz with rfl | ⟨z, rfl⟩ <;> rcases ht with rfl | rfl | rfl <;>
        (simp only [dRet, dAnd, dOr, dNot, dIf, dAndT, dOrT, dNotT, dTest, dChain, dIsi, dVar, dC, dOp, dUn, dTup, dLst, dCons, dNil, dCallB, dCall, dCallP, dSl, dSlS, dPart, dNoPart, dLc, dSet, dIfS, dFor, dAsg, dPar, dApp, dSetIx, dDrop, dSeq, dNext, dStore, diSeq, diRange1, diRange2, diZip, gdName, gdTup, gdCons, gdNil, dYes, oI, oI0, oLe, oGt, oGe, OpdData, toDs, isT_int, isT_bool, isT_tuple, isT_str, List.map_cons, List.map_nil, List.getElem?_cons_zero, List.getElem?_cons_succ, List.set_cons_zero, List.set_cons_succ, oEq, oLt, oIn, c_below]
         refine ⟨rfl, by trivial, _, rfl, 9, rfl, by decide, by decide, fun r hr0 hr1 => ⟨rfl, ?_⟩⟩
         split
         · refine ⟨sd, sc, ?_⟩
           split
           · exact ⟨rfl, by decide, d, rfl, by omega, fm r⟩
           · exact ⟨rfl, by decide, d, rfl, by omega, fa r⟩
         · refine ⟨shp_int _, shp_int _, ?_⟩
           split
           · refine ⟨by trivial, _, rfl, 4, rfl, by decide, by decide, fun u hu0 hu1 => ⟨shp_int _, shp_int _, ?_⟩⟩
             split
             · refine ⟨sd, sc, ?_⟩
               split
               · exact ⟨rfl, by decide, d, rfl, by omega, fa r⟩
               · exact ⟨rfl, by decide, d, rfl, by omega, fm r⟩
             · exact fn r
           · exact fn r)
    · rintro ρ ⟨_, ms, as, y, z, t, hm, ha, hml, hal, hy, hz, ht, rfl⟩
      exact hN _ ⟨ms, as, x, y, z, t, hm, ha, by omega, by omega, hx, hy, hz, ht, rfl⟩
    · exact ⟨hp, [], [], .un, .un, .un, (fun d h => nomatch h), (fun d h => nomatch h), by rw [List.length_nil]; omega, by rw [List.length_nil]; omega, .un, .un, .inl rfl, rfl⟩
  rintro ρ ⟨ms, as, x, y, z, t, hm, ha, hml, hal, hx, hy, hz, ht, rfl⟩
  have fin := q ns ms as ⟨by omega, by omega, hn, hml, hal, hm, ha⟩
  simp only [dRet, dAnd, dOr, dNot, dIf, dAndT, dOrT, dNotT, dTest, dChain, dIsi, dVar, dC, dOp, dUn, dTup, dLst, dCons, dNil, dCallB, dCall, dCallP, dSl, dSlS, dPart, dNoPart, dLc, dSet, dIfS, dFor, dAsg, dPar, dApp, dSetIx, dDrop, dSeq, dNext, dStore, diSeq, diRange1, diRange2, diZip, gdName, gdTup, gdCons, gdNil, dYes, oI, oI0, oLe, oGt, oGe, OpdData, toDs, isT_int, isT_bool, isT_tuple, isT_str, List.map_cons, List.map_nil, List.getElem?_cons_zero, List.getElem?_cons_succ, List.set_cons_zero, List.set_cons_succ, oTuple]
  exact ⟨_, rfl, (by decide : 3 ≤ 100000), fin⟩
end
end K02

namespace K02
open PySem PySem.Spec PyProof.Rows L2 DL
section
variable {P : Program} {w : World} {K : PySem.W.Frag} {mg : Str → Option Value} {base : Heap}
def inI (lo hi : Int) : PyData → Bool
  | .int i => decide (lo ≤ i) && decide (i ≤ hi)
  | _ => false
def c_number : DC := fun xs Q => ∃ x lo hi, xs = [x, .int lo, .int hi] ∧ Q (.k (.bool (inI lo hi x)))
theorem ok_number (T : Txt K mg) : OkD P w K mg base "_law_number" s__law_number ["thing", "start", "most"] 1 c_number := by
  refine okD T.d__law_number sc__law_number (fun xs QD ⟨x, lo, hi, e, _⟩ => by rw [e]; rfl) (by decide) fun f cdv A outer s H E hg hr => ⟨_, (ds_one (ds_ret (de_and (de_isi (T := "int") (de_var 0) rfl T.m_isinstance (by decide +kernel) rfl T.m_int (by decide +kernel) kit_intT) (de_and (de_not (de_isi (T := "bool") (de_var 0) rfl T.m_isinstance (by decide +kernel) rfl T.m_bool (by decide +kernel) kit_boolT)) (de_one (de_chain cm_le cm_le (de_var 1) (de_var 0) (de_var 2))))))), fun xs QD ⟨x, lo, hi, e, q⟩ => ?_⟩
  subst e
  show dRet _ _ [.sh x, .sh (.int lo), .sh (.int hi)]
  simp only [dRet, dAnd, dOr, dNot, dIf, dAndT, dOrT, dNotT, dTest, dChain, dIsi, dVar, dC, dOp, dUn, dTup, dLst, dCons, dNil, dCallB, dCall, dCallP, dSl, dSlS, dPart, dNoPart, dLc, dSet, dIfS, dFor, dAsg, dPar, dApp, dSetIx, dDrop, dSeq, dNext, dStore, diSeq, diRange1, diRange2, diZip, gdName, gdTup, gdCons, gdNil, dYes, oI, oI0, oLe, oGt, oGe, OpdData, toDs, isT_int, isT_bool, isT_tuple, isT_str, List.map_cons, List.map_nil, List.getElem?_cons_zero, List.getElem?_cons_succ, List.set_cons_zero, List.set_cons_succ]
  cases x with
  | int i =>
    simp only [inI] at q
    by_cases h : lo ≤ i
    · simpa [h] using q
    · simpa [h] using q
  | _ => exact q
theorem inI_person {m : Int} (x : PyData) : inI 0 (m - 1) x = personOk m x := by
  cases x with
  | int i =>
    show (decide (0 ≤ i) && decide (i ≤ m - 1)) = (decide (0 ≤ i) && decide (i < m))
    rw [show decide (i ≤ m - 1) = decide (i < m) from by by_cases h : i < m <;> simp [h] <;> omega]
  | _ => rfl
theorem pair_second {m a : Int} (h0 : 0 ≤ a) (b : PyData) : inI (a + 1) (m - 1) b = (personOk m b && ltI (.int a) b) := by
  cases b with
  | int i =>
    show (decide (a + 1 ≤ i) && decide (i ≤ m - 1)) = ((decide (0 ≤ i) && decide (i < m)) && decide (a < i))
    by_cases h : a < i
    · rw [decide_eq_true (show a + 1 ≤ i by omega), decide_eq_true (show 0 ≤ i by omega), decide_eq_true h]
      by_cases h2 : i < m
      · rw [decide_eq_true (show i ≤ m - 1 by omega), decide_eq_true h2]; rfl
      · rw [decide_eq_false (show ¬ i ≤ m - 1 by omega), decide_eq_false h2]; rfl
    · rw [decide_eq_false (show ¬ a + 1 ≤ i by omega), decide_eq_false h, Bool.false_and, Bool.and_false]
  | _ => rfl
theorem ok_is_pairL (T : Txt K mg) (G__law_number : OkD P w K mg base "_law_number" s__law_number ["thing", "start", "most"] 1 c_number) : OkD P w K mg base "_law_is_pair" s__law_is_pair ["thing", "many"] 2 c_is_pair := by
  refine okD T.d__law_is_pair sc__law_is_pair (fun xs QD ⟨x, m, e, _⟩ => by rw [e]; rfl) (by decide) fun f cdv A outer s H E hg hr => ⟨_, (ds_cons (ds_if (dt_w (dw_or (dt_not (dt_val (de_isi (T := "tuple") (de_var 0) rfl T.m_isinstance (by decide +kernel) rfl T.m_tuple (by decide +kernel) kit_tupleT))) (dw_or (dt_cmp (cm_ne hr.units) (de_callB cr_len cd_len rfl T.m_len (by decide +kernel) (da_cons (de_var 0) da_nil)) de_int) (dw_or1 (dt_not (dt_val (de_fn G__law_number hg (hr.mono (by decide)) (da_cons (de_ix (de_var 0) de_int) (da_cons de_int (da_cons (de_sub (de_var 1) de_int) da_nil)))))))))) (ds_one (ds_ret de_bl)) ds_nil) (ds_one (ds_ret (de_fn G__law_number hg (hr.mono (by decide)) (da_cons (de_ix (de_var 0) de_int) (da_cons (de_add (de_ix (de_var 0) de_int) de_int) (da_cons (de_sub (de_var 1) de_int) da_nil))))))), fun xs QD ⟨x, m, e, q⟩ => ?_⟩
  subst e
  show dSeq _ _ _ [.sh x, .sh (.int m)]
  cases x with
  | tuple ds =>
    simp only [dRet, dAnd, dOr, dNot, dIf, dAndT, dOrT, dNotT, dTest, dChain, dIsi, dVar, dC, dOp, dUn, dTup, dLst, dCons, dNil, dCallB, dCall, dCallP, dSl, dSlS, dPart, dNoPart, dLc, dSet, dIfS, dFor, dAsg, dPar, dApp, dSetIx, dDrop, dSeq, dNext, dStore, diSeq, diRange1, diRange2, diZip, gdName, gdTup, gdCons, gdNil, dYes, oI, oI0, oLe, oGt, oGe, OpdData, toDs, isT_int, isT_bool, isT_tuple, isT_str, List.map_cons, List.map_nil, List.getElem?_cons_zero, List.getElem?_cons_succ, List.set_cons_zero, List.set_cons_succ, oLen, oNe, oIx, oAdd, oInt, c_number]
    rw [if_neg (by decide)]
    refine ⟨rfl, rfl, ?_⟩
    by_cases hl : ds.length = 2
    · match ds, hl, q with
      | [a, b], _, q =>
        rw [if_neg (by simp [PyData.eqv])]
        refine ⟨a, rfl, _, rfl, a, 0, m - 1, rfl, ?_⟩
        simp only [pairOk] at q
        rw [inI_person]
        cases ha : personOk m a with
        | false => rw [ha] at q; exact q
        | true =>
          rw [ha] at q
          obtain ⟨i, rfl, hi0, hi1⟩ := personOk_int ha
          refine ⟨b, rfl, .int i, rfl, _, rfl, b, i + 1, m - 1, rfl, ?_⟩
          rw [pair_second hi0]
          exact q
    · rw [if_pos (by simp [PyData.eqv]; omega)]
      rw [pairOk_len hl] at q
      exact q
  | _ => simp only [dRet, dAnd, dOr, dNot, dIf, dAndT, dOrT, dNotT, dTest, dChain, dIsi, dVar, dC, dOp, dUn, dTup, dLst, dCons, dNil, dCallB, dCall, dCallP, dSl, dSlS, dPart, dNoPart, dLc, dSet, dIfS, dFor, dAsg, dPar, dApp, dSetIx, dDrop, dSeq, dNext, dStore, diSeq, diRange1, diRange2, diZip, gdName, gdTup, gdCons, gdNil, dYes, oI, oI0, oLe, oGt, oGe, OpdData, toDs, isT_int, isT_bool, isT_tuple, isT_str, List.map_cons, List.map_nil, List.getElem?_cons_zero, List.getElem?_cons_succ, List.set_cons_zero, List.set_cons_succ]; exact q
theorem ok_is_rowL (T : Txt K mg) (G__law_is_pair : OkD P w K mg base "_law_is_pair" s__law_is_pair ["thing", "many"] 2 c_is_pair) : OkD P w K mg base "_law_is_row" s__law_is_row ["thing", "many"] 3 c_are_pairs := by
  refine okD T.d__law_is_row sc__law_is_row (fun xs QD ⟨x, m, e, _⟩ => by rw [e]; rfl) (by decide) fun f cdv A outer s H E hg hr => ⟨_, (ds_cons (ds_if (dt_not (dt_val (de_isi (T := "tuple") (de_var 0) rfl T.m_isinstance (by decide +kernel) rfl T.m_tuple (by decide +kernel) kit_tupleT))) (ds_one (ds_ret de_bl)) ds_nil) (ds_cons (ds_for PassesOwn.never rfl (di_seq (de_var 0)) (dg_name (i := 2) sc__law_is_row.nd) (ds_one (ds_if (dt_not (dt_val (de_fn G__law_is_pair hg (hr.mono (by decide)) (da_cons (de_var 2) (da_cons (de_var 1) da_nil))))) (ds_one (ds_ret de_bl)) ds_nil))) (ds_one (ds_ret (de_cmp (cm_eq hr.units) (de_lc (own := [("one", 3), ("other", 4)]) rfl sc__law_is_row.nd (di_zip rfl T.m_zip (da_cons (de_var 0) (da_cons (de_sl (de_var 0) (do_some de_int) do_none) da_nil))) (blkOk_by (N := ["thing", "many", "pair", "one", "other"]) (sc := defScope s__law_is_row) (by decide +kernel)) (fun _ _ _ _ _ => (dg_tup (n := 2) rfl (dgs_cons (dg_name (i := 3) sc__law_is_row.nd) (dgs_cons (dg_name (i := 4) sc__law_is_row.nd) dgs_nil)))) (fun _ _ _ _ _ => (pts_if (dt_not (dt_cmp (cm_lt hr.units) (de_var 3) (de_var 4))))) (fun _ _ _ _ _ => de_int) (by decide)) (de_lst da_nil)))))), fun xs QD ⟨x, m, e, hl, q⟩ => ?_⟩
  subst e
  show dSeq _ _ _ [.sh x, .sh (.int m), .un, .un, .un]
  cases x with
  | tuple ds =>
    simp only [dRet, dAnd, dOr, dNot, dIf, dAndT, dOrT, dNotT, dTest, dChain, dIsi, dVar, dC, dOp, dUn, dTup, dLst, dCons, dNil, dCallB, dCall, dCallP, dSl, dSlS, dPart, dNoPart, dLc, dSet, dIfS, dFor, dAsg, dPar, dApp, dSetIx, dDrop, dSeq, dNext, dStore, diSeq, diRange1, diRange2, diZip, gdName, gdTup, gdCons, gdNil, dYes, oI, oI0, oLe, oGt, oGe, OpdData, toDs, isT_int, isT_bool, isT_tuple, isT_str, List.map_cons, List.map_nil, List.getElem?_cons_zero, List.getElem?_cons_succ, List.set_cons_zero, List.set_cons_succ, oLen, oEq, oSl, oLt, c_is_pair]
    rw [if_neg (by decide)]
    simp only [seqOwn]
    have q0 : ∀ d ∈ ds, pairOk m d = false → QD (.k (.bool false)) := fun d hd h => by
      have e : pairsOk m (.tuple ds) = false := by
        simp only [pairsOk]
        rw [show ds.all (pairOk m) = false from List.all_eq_false.mpr ⟨d, hd, by rw [h]; simp⟩]
        rfl
      rw [e] at q
      exact q
    refine ⟨trivial, forW_ind (fun rem ρ => (∀ d ∈ rem, d ∈ ds) ∧ (∀ d ∈ ds, d ∈ rem ∨ pairOk m d = true) ∧ ∃ x : Sl, Pl x ∧ ρ = [.sh (.tuple ds), .sh (.int m), x, .un, .un]) ?_ ?_ ⟨fun d h => h, fun d h => .inl h, .un, .un, rfl⟩⟩
    · rintro d r ρ N ⟨h1, h2, x, hx, rfl⟩ hN
      have hd := h1 d List.mem_cons_self
      rcases hx with rfl | ⟨x, rfl⟩ <;>
        (simp only [dRet, dAnd, dOr, dNot, dIf, dAndT, dOrT, dNotT, dTest, dChain, dIsi, dVar, dC, dOp, dUn, dTup, dLst, dCons, dNil, dCallB, dCall, dCallP, dSl, dSlS, dPart, dNoPart, dLc, dSet, dIfS, dFor, dAsg, dPar, dApp, dSetIx, dDrop, dSeq, dNext, dStore, diSeq, diRange1, diRange2, diZip, gdName, gdTup, gdCons, gdNil, dYes, oI, oI0, oLe, oGt, oGe, OpdData, toDs, isT_int, isT_bool, isT_tuple, isT_str, List.map_cons, List.map_nil, List.getElem?_cons_zero, List.getElem?_cons_succ, List.set_cons_zero, List.set_cons_succ, c_is_pair]
         refine ⟨rfl, _, rfl, d, m, rfl, ?_⟩
         cases hp : pairOk m d with
         | false => exact q0 d hd hp
         | true => exact hN _ ⟨fun d' h => h1 d' (List.mem_cons_of_mem _ h), fun d' h => by
             rcases h2 d' h with z | z
             · rcases List.mem_cons.mp z with rfl | z
               · exact .inr hp
               · exact .inl z
             · exact .inr z, _, .sh _, rfl⟩)
    · rintro ρ ⟨_, h2, x, hx, rfl⟩
      have hall : ∀ d ∈ ds, pairOk m d = true := fun d hd => by
        rcases h2 d hd with z | z
        · cases z
        · exact z
      have fin : QD (.k (.bool (((zipD ds (ds.drop 1)).map lt2).all id))) := by
        rw [asc_zip]
        have e : pairsOk m (.tuple ds) = ascD ds := by
          simp only [pairsOk]
          rw [List.all_eq_true.mpr hall]
          rfl
        rw [e] at q
        exact q
      have e2 : ∀ l : List PyData, PyData.eqv (.list ((l.filter fun d => !lt2 d).map fun _ => PyData.int 1)) (.list []) = (l.map lt2).all id := fun l => by
        induction l with
        | nil => rfl
        | cons d r ih =>
          rw [List.filter_cons, List.map_cons, List.all_cons, ← ih]
          cases lt2 d with
          | true => rfl
          | false => rfl
      rw [← e2] at fin
      rcases hx with rfl | ⟨x, rfl⟩ <;>
        (simp only [dRet, dAnd, dOr, dNot, dIf, dAndT, dOrT, dNotT, dTest, dChain, dIsi, dVar, dC, dOp, dUn, dTup, dLst, dCons, dNil, dCallB, dCall, dCallP, dSl, dSlS, dPart, dNoPart, dLc, dSet, dIfS, dFor, dAsg, dPar, dApp, dSetIx, dDrop, dSeq, dNext, dStore, diSeq, diRange1, diRange2, diZip, gdName, gdTup, gdCons, gdNil, dYes, oI, oI0, oLe, oGt, oGe, OpdData, toDs, isT_int, isT_bool, isT_tuple, isT_str, List.map_cons, List.map_nil, List.getElem?_cons_zero, List.getElem?_cons_succ, List.set_cons_zero, List.set_cons_succ, oSl, oEq]
         rw [show (some (1 : Int)) = some ((1 : Nat) : Int) from rfl, cutD_from]
         refine ⟨zipD ds (ds.drop 1), rfl, rfl, Nat.le_trans (zipD_len _ _) (hl ds rfl), lcW_fm (fun d => if (!lt2 d) = true then some (.int 1) else none) (fun d hd N hN => ?_) ?_⟩
         · obtain ⟨x, y, hx, hy, rfl⟩ := zipD_mem hd
           obtain ⟨a, b, rfl⟩ := pairOk_ints (hall x hx)
           obtain ⟨c, e, rfl⟩ := pairOk_ints (hall y (List.mem_of_mem_drop hy))
           simp only [dRet, dAnd, dOr, dNot, dIf, dAndT, dOrT, dNotT, dTest, dChain, dIsi, dVar, dC, dOp, dUn, dTup, dLst, dCons, dNil, dCallB, dCall, dCallP, dSl, dSlS, dPart, dNoPart, dLc, dSet, dIfS, dFor, dAsg, dPar, dApp, dSetIx, dDrop, dSeq, dNext, dStore, diSeq, diRange1, diRange2, diZip, gdName, gdTup, gdCons, gdNil, dYes, oI, oI0, oLe, oGt, oGe, OpdData, toDs, isT_int, isT_bool, isT_tuple, isT_str, List.map_cons, List.map_nil, List.getElem?_cons_zero, List.getElem?_cons_succ, List.set_cons_zero, List.set_cons_succ, wipeS, oLt]
           refine ⟨rfl, rfl, rfl, [a, b], [c, e], rfl, rfl, ?_⟩
           rw [show lt2 (.tuple [.tuple [.int a, .int b], .tuple [.int c, .int e]]) = HT.lexLt [a, b] [c, e] from rfl] at hN
           cases hlt : HT.lexLt [a, b] [c, e] with
           | true => rw [hlt] at hN; exact hN
           | false => rw [hlt] at hN; exact ⟨_, rfl, hN⟩
         · rw [List.nil_append, fm_if (fun d => !lt2 d) (fun _ => PyData.int 1)]
           refine ⟨[], rfl, by decide, lowD_shp (n := 1) (lowD_lst (n := 0) fun d hd => ?_), by decide +kernel, fin⟩
           obtain ⟨_, _, rfl⟩ := List.mem_map.mp hd
           exact lowD_int 1)
  | _ => simp only [dRet, dAnd, dOr, dNot, dIf, dAndT, dOrT, dNotT, dTest, dChain, dIsi, dVar, dC, dOp, dUn, dTup, dLst, dCons, dNil, dCallB, dCall, dCallP, dSl, dSlS, dPart, dNoPart, dLc, dSet, dIfS, dFor, dAsg, dPar, dApp, dSetIx, dDrop, dSeq, dNext, dStore, diSeq, diRange1, diRange2, diZip, gdName, gdTup, gdCons, gdNil, dYes, oI, oI0, oLe, oGt, oGe, OpdData, toDs, isT_int, isT_bool, isT_tuple, isT_str, List.map_cons, List.map_nil, List.getElem?_cons_zero, List.getElem?_cons_succ, List.set_cons_zero, List.set_cons_succ]; exact q
theorem eqv_pairs (a b c e : Int) : PyData.eqv (.tuple [.int a, .int b]) (.tuple [.int c, .int e]) = (a == c && b == e) := by
  simp [PyData.eqv, PyData.eqvAll]
theorem eqv_pair_comm {m : Int} {x y : PyData} (hx : pairOk m x = true) (hy : pairOk m y = true) : PyData.eqv x y = PyData.eqv y x := by
  obtain ⟨a, b, rfl⟩ := pairOk_ints hx
  obtain ⟨c, e, rfl⟩ := pairOk_ints hy
  rw [eqv_pairs, eqv_pairs, Bool.beq_comm (a := a), Bool.beq_comm (a := b)]
theorem clash_sym {m : Int} {pa pb : List PyData} (ha : ∀ d ∈ pa, pairOk m d = true) (hb : ∀ d ∈ pb, pairOk m d = true) : clash (.tuple pa) (.tuple pb) = (pa.any fun d => pb.any fun z => PyData.eqv z d) := by
  unfold clash itemsD
  refine Bool.eq_iff_iff.mpr ⟨fun h => ?_, fun h => ?_⟩
  · obtain ⟨p, hp, h⟩ := List.any_eq_true.mp h
    obtain ⟨q, hq, h⟩ := List.any_eq_true.mp h
    exact List.any_eq_true.mpr ⟨q, hq, List.any_eq_true.mpr ⟨p, hp, by rw [eqv_pair_comm (hb p hp) (ha q hq)]; exact h⟩⟩
  · obtain ⟨q, hq, h⟩ := List.any_eq_true.mp h
    obtain ⟨p, hp, h⟩ := List.any_eq_true.mp h
    exact List.any_eq_true.mpr ⟨p, hp, List.any_eq_true.mpr ⟨q, hq, by rw [eqv_pair_comm (ha q hq) (hb p hp)]; exact h⟩⟩
theorem ok_is_partyL (T : Txt K mg) (G__law_number : OkD P w K mg base "_law_number" s__law_number ["thing", "start", "most"] 1 c_number)
    (G__law_is_row : OkD P w K mg base "_law_is_row" s__law_is_row ["thing", "many"] 3 c_are_pairs) :
    OkD P w K mg base "_law_is_party" s__law_is_party ["thing"] 4 c_is_party := by
  refine okD T.d__law_is_party sc__law_is_party (fun xs QD ⟨x, e, _⟩ => by rw [e]; rfl) (by decide) fun f cdv A outer s H E hg hr => ⟨_, (ds_cons (ds_if (dt_w (dw_or (dt_not (dt_val (de_isi (T := "tuple") (de_var 0) rfl T.m_isinstance (by decide +kernel) rfl T.m_tuple (by decide +kernel) kit_tupleT))) (dw_or (dt_cmp (cm_ne hr.units) (de_callB cr_len cd_len rfl T.m_len (by decide +kernel) (da_cons (de_var 0) da_nil)) de_int) (dw_or1 (dt_not (dt_val (de_isi (T := "tuple") (de_ix (de_var 0) de_int) rfl T.m_isinstance (by decide +kernel) rfl T.m_tuple (by decide +kernel) kit_tupleT))))))) (ds_one (ds_ret de_bl)) ds_nil) (ds_cons (ds_if (dt_not (dt_chain cm_le cm_le de_int (de_callB cr_len cd_len rfl T.m_len (by decide +kernel) (da_cons (de_ix (de_var 0) de_int) da_nil)) de_int)) (ds_one (ds_ret de_bl)) ds_nil) (ds_cons (ds_for PassesOwn.never rfl (di_seq (de_ix (de_var 0) de_int)) (dg_name (i := 1) sc__law_is_party.nd) (ds_one (ds_if (dt_w (dw_and (dt_cmp cm_notN (de_var 1) de_non) (dw_and1 (dt_not (dt_val (de_fn G__law_number hg (hr.mono (by decide)) (da_cons (de_var 1) (da_cons de_int (da_cons de_int da_nil))))))))) (ds_one (ds_ret de_bl)) ds_nil))) (ds_cons (ds_if (dt_w (dw_or (dt_not (dt_val (de_fn G__law_is_row hg (hr.mono (by decide)) (da_cons (de_ix (de_var 0) de_int) (da_cons (de_callB cr_len cd_len rfl T.m_len (by decide +kernel) (da_cons (de_ix (de_var 0) de_int) da_nil)) da_nil))))) (dw_or1 (dt_not (dt_val (de_fn G__law_is_row hg (hr.mono (by decide)) (da_cons (de_ix (de_var 0) de_int) (da_cons (de_callB cr_len cd_len rfl T.m_len (by decide +kernel) (da_cons (de_ix (de_var 0) de_int) da_nil)) da_nil)))))))) (ds_one (ds_ret de_bl)) ds_nil) (ds_one (ds_ret (de_cmp (cm_eq hr.units) (de_lc (own := [("pair", 2)]) rfl sc__law_is_party.nd (di_seq (de_ix (de_var 0) de_int)) (blkOk_by (N := ["thing", "number", "pair"]) (sc := defScope s__law_is_party) (by decide +kernel)) (fun _ _ _ _ _ => (dg_name (i := 2) sc__law_is_party.nd)) (fun _ _ _ _ _ => (pts_if (dt_cmp (cm_in (hu65 hr)) (de_var 2) (de_ix (de_var 0) de_int)))) (fun _ _ _ _ _ => (de_var 2)) (by decide)) (de_lst da_nil)))))))), fun xs QD ⟨x, e, hl, q⟩ => ?_⟩
  subst e
  show dSeq _ _ _ [.sh x, .un, .un]
  cases x with
  | tuple ds =>
    by_cases h3 : ds.length = 3
    · match ds, h3, hl, q with
      | [n, a, b], _, hl, q =>
        simp only [smallD, List.all_cons, List.all_nil, Bool.and_true, Bool.and_eq_true] at hl
        simp only [partyOk] at q
        refine dSeq_cut (fun ρ => ρ = [.sh (.tuple [n, a, b]), .un, .un] ∧ ∃ ns, n = .tuple ns) (fun N hN => ?_) ?_
        · simp only [dRet, dAnd, dOr, dNot, dIf, dAndT, dOrT, dNotT, dTest, dChain, dIsi, dVar, dC, dOp, dUn, dTup, dLst, dCons, dNil, dCallB, dCall, dCallP, dSl, dSlS, dPart, dNoPart, dLc, dSet, dIfS, dFor, dAsg, dPar, dApp, dSetIx, dDrop, dSeq, dNext, dStore, diSeq, diRange1, diRange2, diZip, gdName, gdTup, gdCons, gdNil, dYes, oI, oI0, oLe, oGt, oGe, OpdData, toDs, isT_int, isT_bool, isT_tuple, isT_str, List.map_cons, List.map_nil, List.getElem?_cons_zero, List.getElem?_cons_succ, List.set_cons_zero, List.set_cons_succ, oLen, oNe, oIx]
          rw [if_neg (by decide)]
          refine ⟨rfl, rfl, ?_⟩
          rw [if_neg (by simp [PyData.eqv])]
          refine ⟨n, rfl, ?_⟩
          cases n with
          | tuple ns => exact hN _ ⟨rfl, ns, rfl⟩
          | _ => exact q
        rintro ρ ⟨rfl, ns, rfl⟩
        refine dSeq_cut (fun ρ => ρ = [.sh (.tuple [.tuple ns, a, b]), .un, .un] ∧ 1 ≤ ns.length ∧ ns.length ≤ 8) (fun N hN => ?_) ?_
        · simp only [dRet, dAnd, dOr, dNot, dIf, dAndT, dOrT, dNotT, dTest, dChain, dIsi, dVar, dC, dOp, dUn, dTup, dLst, dCons, dNil, dCallB, dCall, dCallP, dSl, dSlS, dPart, dNoPart, dLc, dSet, dIfS, dFor, dAsg, dPar, dApp, dSetIx, dDrop, dSeq, dNext, dStore, diSeq, diRange1, diRange2, diZip, gdName, gdTup, gdCons, gdNil, dYes, oI, oI0, oLe, oGt, oGe, OpdData, toDs, isT_int, isT_bool, isT_tuple, isT_str, List.map_cons, List.map_nil, List.getElem?_cons_zero, List.getElem?_cons_succ, List.set_cons_zero, List.set_cons_succ, oLen, oIx]
          refine ⟨.tuple ns, rfl, ?_⟩
          simp only [dRet, dAnd, dOr, dNot, dIf, dAndT, dOrT, dNotT, dTest, dChain, dIsi, dVar, dC, dOp, dUn, dTup, dLst, dCons, dNil, dCallB, dCall, dCallP, dSl, dSlS, dPart, dNoPart, dLc, dSet, dIfS, dFor, dAsg, dPar, dApp, dSetIx, dDrop, dSeq, dNext, dStore, diSeq, diRange1, diRange2, diZip, gdName, gdTup, gdCons, gdNil, dYes, oI, oI0, oLe, oGt, oGe, OpdData, toDs, isT_int, isT_bool, isT_tuple, isT_str, List.map_cons, List.map_nil, List.getElem?_cons_zero, List.getElem?_cons_succ, List.set_cons_zero, List.set_cons_succ, oLen, oIx]
          by_cases h1 : (1 : Int) ≤ ns.length
          · by_cases h8 : (ns.length : Int) ≤ 8
            · simp only [h1, h8, decide_true, Bool.not_true, if_true]
              exact hN _ ⟨rfl, by omega, by omega⟩
            · simp only [h1, h8, decide_true, decide_false, Bool.not_false, if_true]
              have e : numbersOk (.tuple ns) = false := by
                simp only [numbersOk]
                rw [decide_eq_false (by omega : ¬ ns.length ≤ 8)]
                simp
              rw [e] at q
              exact q
          · simp only [h1, decide_false, if_true]
            have e : numbersOk (.tuple ns) = false := by
              simp only [numbersOk]
              rw [decide_eq_false (by omega : ¬ 1 ≤ ns.length)]
              simp
            rw [e] at q
            exact q
        rintro ρ ⟨rfl, h1, h8⟩
        have hno : numbersOk (.tuple ns) = ns.all numOk := by
          simp only [numbersOk]
          rw [decide_eq_true h1, decide_eq_true h8]
          rfl
        rw [hno] at q
        refine dSeq_cut (fun ρ => ∃ y, Pl y ∧ ρ = [.sh (.tuple [.tuple ns, a, b]), y, .un] ∧ ns.all numOk = true) (fun N hN => ?_) ?_
        · simp only [dFor, diSeq, dOp, dVar, dC, oIx, DV.data, List.getElem?_cons_succ, List.getElem?_cons_zero]
          refine ⟨.tuple ns, rfl, ?_⟩
          simp only [seqOwn]
          refine ⟨trivial, forW_ind (fun rem ρ => (∀ d ∈ rem, d ∈ ns) ∧ (∀ d ∈ ns, d ∈ rem ∨ numOk d = true) ∧ ∃ x : Sl, Pl x ∧ ρ = [.sh (.tuple [.tuple ns, a, b]), x, .un]) ?_ ?_ ⟨fun d h => h, fun d h => .inl h, .un, .un, rfl⟩⟩
          · rintro d r ρ N ⟨g1, g2, x, hx, rfl⟩ hN
            have hd := g1 d List.mem_cons_self
            have bad : numOk d = false → QD (.k (.bool false)) := fun h => by
              rw [show ns.all numOk = false from List.all_eq_false.mpr ⟨d, hd, by rw [h]; simp⟩] at q
              exact q
            have good : numOk d = true → N [.sh (.tuple [.tuple ns, a, b]), .sh d, .un] := fun hp => hN _ ⟨fun d' h => g1 d' (List.mem_cons_of_mem _ h), fun d' h => by
                rcases g2 d' h with z | z
                · rcases List.mem_cons.mp z with rfl | z
                  · exact .inr hp
                  · exact .inl z
                · exact .inr z, _, .sh _, rfl⟩
            rcases hx with rfl | ⟨x, rfl⟩ <;>
              (simp only [dRet, dAnd, dOr, dNot, dIf, dAndT, dOrT, dNotT, dTest, dChain, dIsi, dVar, dC, dOp, dUn, dTup, dLst, dCons, dNil, dCallB, dCall, dCallP, dSl, dSlS, dPart, dNoPart, dLc, dSet, dIfS, dFor, dAsg, dPar, dApp, dSetIx, dDrop, dSeq, dNext, dStore, diSeq, diRange1, diRange2, diZip, gdName, gdTup, gdCons, gdNil, dYes, oI, oI0, oLe, oGt, oGe, OpdData, toDs, isT_int, isT_bool, isT_tuple, isT_str, List.map_cons, List.map_nil, List.getElem?_cons_zero, List.getElem?_cons_succ, List.set_cons_zero, List.set_cons_succ, oNotN, c_number]
               refine ⟨rfl, ?_⟩
               cases d with
               | none => exact good rfl
               | int i =>
                 refine ⟨_, rfl, .int i, 0, 20, rfl, ?_⟩
                 cases hp : inI 0 20 (.int i) with
                 | false => exact bad hp
                 | true => exact good hp
               | _ => exact ⟨_, rfl, _, 0, 20, rfl, bad rfl⟩)
          · rintro ρ ⟨_, g2, x, hx, rfl⟩
            refine hN _ ⟨x, hx, rfl, List.all_eq_true.mpr fun d hd => ?_⟩
            rcases g2 d hd with z | z
            · cases z
            · exact z
        rintro ρ ⟨y, hy, rfl, hall⟩
        rw [hall] at q
        simp only [lenD, Bool.true_and] at q
        refine dSeq_cut (fun ρ => ρ = [.sh (.tuple [.tuple ns, a, b]), y, .un] ∧ pairsOk ns.length a = true ∧ pairsOk ns.length b = true) (fun N hN => ?_) ?_
        · simp only [dRet, dAnd, dOr, dNot, dIf, dAndT, dOrT, dNotT, dTest, dChain, dIsi, dVar, dC, dOp, dUn, dTup, dLst, dCons, dNil, dCallB, dCall, dCallP, dSl, dSlS, dPart, dNoPart, dLc, dSet, dIfS, dFor, dAsg, dPar, dApp, dSetIx, dDrop, dSeq, dNext, dStore, diSeq, diRange1, diRange2, diZip, gdName, gdTup, gdCons, gdNil, dYes, oI, oI0, oLe, oGt, oGe, OpdData, toDs, isT_int, isT_bool, isT_tuple, isT_str, List.map_cons, List.map_nil, List.getElem?_cons_zero, List.getElem?_cons_succ, List.set_cons_zero, List.set_cons_succ, oLen, oIx, c_are_pairs]
          refine ⟨a, rfl, .tuple ns, rfl, _, rfl, a, ns.length, rfl, rowLen_le hl.2.1, ?_⟩
          cases ha : pairsOk ns.length a with
          | false => rw [ha] at q; exact q
          | true =>
            rw [ha] at q
            refine ⟨b, rfl, .tuple ns, rfl, _, rfl, b, ns.length, rfl, rowLen_le hl.2.2, ?_⟩
            cases hb : pairsOk ns.length b with
            | false => rw [hb] at q; exact q
            | true => exact hN _ ⟨rfl, ha, hb⟩
        rintro ρ ⟨rfl, ha, hb⟩
        rw [ha, hb] at q
        obtain ⟨pa, rfl, ha1, ha2⟩ := pairsOk_tup ha
        obtain ⟨pb, rfl, hb1, hb2⟩ := pairsOk_tup hb
        have e2 : ∀ l : List PyData, PyData.eqv (.list ((l.filter fun d => pb.any fun z => PyData.eqv z d).map fun d => d)) (.list []) = !(l.any fun d => pb.any fun z => PyData.eqv z d) := fun l => by
          induction l with
          | nil => rfl
          | cons d r ih =>
            rw [List.filter_cons, List.any_cons, Bool.not_or, ← ih]
            cases (pb.any fun z => PyData.eqv z d) with
            | true => rfl
            | false => rfl
        have fin : QD (.k (.bool (!(pa.any fun d => pb.any fun z => PyData.eqv z d)))) := by
          rw [← clash_sym ha1 hb1]
          exact q
        rw [← e2] at fin
        rcases hy with rfl | ⟨y, rfl⟩ <;>
          (simp only [dRet, dAnd, dOr, dNot, dIf, dAndT, dOrT, dNotT, dTest, dChain, dIsi, dVar, dC, dOp, dUn, dTup, dLst, dCons, dNil, dCallB, dCall, dCallP, dSl, dSlS, dPart, dNoPart, dLc, dSet, dIfS, dFor, dAsg, dPar, dApp, dSetIx, dDrop, dSeq, dNext, dStore, diSeq, diRange1, diRange2, diZip, gdName, gdTup, gdCons, gdNil, dYes, oI, oI0, oLe, oGt, oGe, OpdData, toDs, isT_int, isT_bool, isT_tuple, isT_str, List.map_cons, List.map_nil, List.getElem?_cons_zero, List.getElem?_cons_succ, List.set_cons_zero, List.set_cons_succ, oIx, oEq]
           refine ⟨.tuple pa, rfl, ?_⟩
           simp only [seqOwn]
           refine ⟨rfl, rowLen_le hl.2.1 _ rfl, lcW_fm (fun d => if (pb.any fun z => PyData.eqv z d) = true then some d else none) (fun d hd N hN => ?_) ?_⟩
           · simp only [dRet, dAnd, dOr, dNot, dIf, dAndT, dOrT, dNotT, dTest, dChain, dIsi, dVar, dC, dOp, dUn, dTup, dLst, dCons, dNil, dCallB, dCall, dCallP, dSl, dSlS, dPart, dNoPart, dLc, dSet, dIfS, dFor, dAsg, dPar, dApp, dSetIx, dDrop, dSeq, dNext, dStore, diSeq, diRange1, diRange2, diZip, gdName, gdTup, gdCons, gdNil, dYes, oI, oI0, oLe, oGt, oGe, OpdData, toDs, isT_int, isT_bool, isT_tuple, isT_str, List.map_cons, List.map_nil, List.getElem?_cons_zero, List.getElem?_cons_succ, List.set_cons_zero, List.set_cons_succ, wipeS, oIn, oIx]
             refine ⟨rfl, .tuple pb, rfl, lowD_shp (pairOk_low (ha1 d hd)), lowD_shp (pairsOk_low hb1), ?_⟩
             rw [Bool.false_xor]
             cases hz : (pb.any fun z => PyData.eqv z d) with
             | true => rw [hz] at hN; exact ⟨_, rfl, hN⟩
             | false => rw [hz] at hN; exact hN
           · rw [List.nil_append, fm_if (fun d => pb.any fun z => PyData.eqv z d) (fun d => d)]
             refine ⟨[], rfl, by decide, lowD_shp (n := 2) (lowD_lst (n := 1) fun d hd => ?_), by decide +kernel, fin⟩
             obtain ⟨_, h, rfl⟩ := List.mem_map.mp hd
             exact pairOk_low (ha1 _ (List.mem_filter.mp h).1))
    · simp only [dRet, dAnd, dOr, dNot, dIf, dAndT, dOrT, dNotT, dTest, dChain, dIsi, dVar, dC, dOp, dUn, dTup, dLst, dCons, dNil, dCallB, dCall, dCallP, dSl, dSlS, dPart, dNoPart, dLc, dSet, dIfS, dFor, dAsg, dPar, dApp, dSetIx, dDrop, dSeq, dNext, dStore, diSeq, diRange1, diRange2, diZip, gdName, gdTup, gdCons, gdNil, dYes, oI, oI0, oLe, oGt, oGe, OpdData, toDs, isT_int, isT_bool, isT_tuple, isT_str, List.map_cons, List.map_nil, List.getElem?_cons_zero, List.getElem?_cons_succ, List.set_cons_zero, List.set_cons_succ, oLen, oNe]
      rw [if_neg (by decide)]
      refine ⟨rfl, rfl, ?_⟩
      rw [if_pos (by simp [PyData.eqv]; omega)]
      rw [partyOk_len h3] at q
      exact q
  | _ => simp only [dRet, dAnd, dOr, dNot, dIf, dAndT, dOrT, dNotT, dTest, dChain, dIsi, dVar, dC, dOp, dUn, dTup, dLst, dCons, dNil, dCallB, dCall, dCallP, dSl, dSlS, dPart, dNoPart, dLc, dSet, dIfS, dFor, dAsg, dPar, dApp, dSetIx, dDrop, dSeq, dNext, dStore, diSeq, diRange1, diRange2, diZip, gdName, gdTup, gdCons, gdNil, dYes, oI, oI0, oLe, oGt, oGe, OpdData, toDs, isT_int, isT_bool, isT_tuple, isT_str, List.map_cons, List.map_nil, List.getElem?_cons_zero, List.getElem?_cons_succ, List.set_cons_zero, List.set_cons_succ]; exact q
end
end K02

namespace K02
open PySem PySem.Spec PyProof.Rows L2 DL
section
variable {P : Program} {w : World} {K : PySem.W.Frag} {mg : Str → Option Value} {base : Heap}
def c_muddled : DC := fun xs Q => ∃ row odd, xs = [.tuple row, odd] ∧ row.length ≤ 100 ∧ ∀ r : List PyData, (∀ d ∈ r, d ∈ row ∨ d = odd) → r.length ≤ row.length + 1 → Q (.k (.tuple r))
theorem ok_muddled (T : Txt K mg) (G__law_below : OkP P w K mg base "_law_below" s__law_below ["pot", "bound"] 2 c_below) (G__law_pick : OkP P w K mg base "_law_pick" s__law_pick ["pot", "items"] 3 c_pick) :
    OkP P w K mg base "_law_muddled" s__law_muddled ["pot", "row", "odd"] 4 c_muddled := by
  refine okP T.d__law_muddled sc__law_muddled (fun xs QD ⟨r, o, e, _⟩ => by rw [e]; rfl) (by decide) fun f cdv A outer s H E hg hr => ⟨_, (ds_cons (ds_set (i := 3) sc__law_muddled.nd (de_fnP 0 G__law_below hg (hr.mono (by decide)) (da_cons (de_add (de_callB cr_len cd_len rfl T.m_len (by decide +kernel) (da_cons (de_var 1) da_nil)) de_int) da_nil))) (ds_cons (ds_set (i := 4) sc__law_muddled.nd (de_lst (da_cons (de_add (de_add (de_sl (de_var 1) do_none (do_some (de_var 3))) (de_rev (de_sl (de_var 1) (do_some (de_var 3)) (do_some (de_add (de_var 3) de_int))))) (de_sl (de_var 1) (do_some (de_add (de_var 3) de_int)) do_none)) (da_cons (de_add (de_add (de_sl (de_var 1) do_none (do_some (de_var 3))) (de_sl (de_var 1) (do_some (de_var 3)) (do_some (de_add (de_var 3) de_int)))) (de_sl (de_var 1) (do_some (de_var 3)) do_none)) da_nil)))) (ds_one (ds_ret (de_fnP 0 G__law_pick hg (hr.mono (by decide)) (da_cons (de_add (de_add (de_var 4) (de_lst (da_cons (de_add (de_sl (de_var 1) do_none (do_some (de_var 3))) (de_sl (de_var 1) (do_some (de_add (de_var 3) de_int)) do_none)) da_nil))) (de_mul (de_lst (da_cons (de_add (de_add (de_sl (de_var 1) do_none (do_some (de_var 3))) (de_tup (da_cons (de_var 2) da_nil))) (de_sl (de_var 1) (do_some (de_var 3)) do_none)) da_nil)) de_int)) da_nil)))))), fun xs QD ⟨row, odd, e, hl, q⟩ => ?_⟩
  subst e
  show dSeq _ _ _ [.pot, .sh (.tuple row), .sh odd, .un, .un]
  refine dSeq_cut (fun ρ => ∃ at' : Nat, at' ≤ row.length ∧ ρ = [.pot, .sh (.tuple row), .sh odd, .sh (.int at'), .un]) (fun N hN => ?_) ?_
  · simp only [dRet, dAnd, dOr, dNot, dIf, dAndT, dOrT, dNotT, dTest, dChain, dIsi, dVar, dC, dOp, dUn, dTup, dLst, dCons, dNil, dCallB, dCall, dCallP, dSl, dSlS, dPart, dNoPart, dLc, dSet, dIfS, dFor, dAsg, dPar, dApp, dSetIx, dDrop, dSeq, dNext, dStore, diSeq, diRange1, diRange2, diZip, gdName, gdTup, gdCons, gdNil, dYes, oI, oI0, oLe, oGt, oGe, OpdData, toDs, isT_int, isT_bool, isT_tuple, isT_str, List.map_cons, List.map_nil, List.getElem?_cons_zero, List.getElem?_cons_succ, List.set_cons_zero, List.set_cons_succ, oAdd, oLen, c_below]
    refine ⟨by trivial, _, rfl, _, rfl, by omega, by omega, fun r hr0 hr1 => ⟨rfl, ?_⟩⟩
    obtain ⟨j, rfl⟩ := Int.eq_ofNat_of_zero_le hr0
    exact hN _ ⟨j, by omega, rfl⟩
  rintro ρ ⟨at', hat, rfl⟩
  have e2 : ((at' : Int) + 2) = ((at' + 2 : Nat) : Int) := by omega
  have e1 : ((at' : Int) + 1) = ((at' + 1 : Nat) : Int) := by omega
  refine dSeq_cut (fun ρ => ∃ r1 r2 : List PyData, (∀ d ∈ r1, d ∈ row) ∧ (∀ d ∈ r2, d ∈ row) ∧ r1.length ≤ row.length + 1 ∧ r2.length ≤ row.length + 1 ∧ ρ = [.pot, .sh (.tuple row), .sh odd, .sh (.int at'), .own [.tuple r1, .tuple r2]]) (fun N hN => ?_) ?_
  · simp only [dRet, dAnd, dOr, dNot, dIf, dAndT, dOrT, dNotT, dTest, dChain, dIsi, dVar, dC, dOp, dUn, dTup, dLst, dCons, dNil, dCallB, dCall, dCallP, dSl, dSlS, dPart, dNoPart, dLc, dSet, dIfS, dFor, dAsg, dPar, dApp, dSetIx, dDrop, dSeq, dNext, dStore, diSeq, diRange1, diRange2, diZip, gdName, gdTup, gdCons, gdNil, dYes, oI, oI0, oLe, oGt, oGe, OpdData, toDs, isT_int, isT_bool, isT_tuple, isT_str, List.map_cons, List.map_nil, List.getElem?_cons_zero, List.getElem?_cons_succ, List.set_cons_zero, List.set_cons_succ, oAdd, oSl, oRev]
    simp only [e1, e2, cutD_to, cutD_from, cutD_mid]
    have tk : ∀ {n : Nat} {l : List PyData} {d : PyData}, d ∈ l.take n → d ∈ l := fun h => List.mem_of_mem_take h
    have dr : ∀ {n : Nat} {l : List PyData} {d : PyData}, d ∈ l.drop n → d ∈ l := fun h => List.mem_of_mem_drop h
    refine ⟨?_, ?_, ?_, ?_, _, rfl, (by decide : 2 ≤ 100000), rfl, hN _ ⟨_, _, fun d hd => ?_, fun d hd => ?_, ?_, ?_, rfl⟩⟩
    · simp only [List.length_take, List.length_drop, List.length_reverse]; omega
    · simp only [List.length_take, List.length_drop, List.length_reverse, List.length_append]; omega
    · simp only [List.length_take, List.length_drop]; omega
    · simp only [List.length_take, List.length_drop, List.length_append]; omega
    · simp only [List.mem_append, List.mem_reverse] at hd
      rcases hd with (h | h) | h
      · exact tk h
      · exact dr (tk h)
      · exact dr h
    · simp only [List.mem_append] at hd
      rcases hd with (h | h) | h
      · exact tk h
      · exact dr (tk h)
      · exact dr h
    · simp only [List.length_take, List.length_drop, List.length_reverse, List.length_append]; omega
    · simp only [List.length_take, List.length_drop, List.length_append]; omega
  rintro ρ ⟨r1, r2, h1, h2, l1, l2, rfl⟩
  simp only [dRet, dAnd, dOr, dNot, dIf, dAndT, dOrT, dNotT, dTest, dChain, dIsi, dVar, dC, dOp, dUn, dTup, dLst, dCons, dNil, dCallB, dCall, dCallP, dSl, dSlS, dPart, dNoPart, dLc, dSet, dIfS, dFor, dAsg, dPar, dApp, dSetIx, dDrop, dSeq, dNext, dStore, diSeq, diRange1, diRange2, diZip, gdName, gdTup, gdCons, gdNil, dYes, oI, oI0, oLe, oGt, oGe, OpdData, toDs, isT_int, isT_bool, isT_tuple, isT_str, List.map_cons, List.map_nil, List.getElem?_cons_zero, List.getElem?_cons_succ, List.set_cons_zero, List.set_cons_succ, oAdd, oSl, oMul, c_pick]
  simp only [e1, cutD_to, cutD_from]
  have q' : ∀ r : List PyData, (∀ d ∈ r, d ∈ row ∨ d = odd) → r.length ≤ row.length + 1 → QD (DV.k (PyData.tuple r)).ret := q
  refine ⟨by trivial, ?_, _, rfl, (by decide : 1 ≤ 100000), (by decide : 3 ≤ 100000), _, rfl, (by decide : 1 ≤ 100000), ?_, ?_, _, rfl, (by decide : 1 ≤ 100000), by decide, by decide, (by decide : 1 * 2 ≤ 100000), (by decide : 5 ≤ 100000), _, rfl, _, rfl, (by decide : 0 < 5), (by decide : 5 ≤ 1000), fun d hd => ?_⟩
  · simp only [List.length_take, List.length_drop]; omega
  · simp only [List.length_take, List.length_singleton]; omega
  · simp only [List.length_take, List.length_drop, List.length_append, List.length_singleton]; omega
  · have tk : ∀ {n : Nat} {l : List PyData} {d : PyData}, d ∈ l.take n → d ∈ l := fun h => List.mem_of_mem_take h
    have dr : ∀ {n : Nat} {l : List PyData} {d : PyData}, d ∈ l.drop n → d ∈ l := fun h => List.mem_of_mem_drop h
    have last : QD (DV.k (PyData.tuple (List.take at' row ++ [odd] ++ List.drop at' row))).ret := q' _ (fun d hd => by
      simp only [List.mem_append, List.mem_singleton] at hd
      rcases hd with (h | h) | h
      · exact .inl (tk h)
      · exact .inr h
      · exact .inl (dr h)) (by simp only [List.length_take, List.length_drop, List.length_append, List.length_singleton]; omega)
    have hd' : d = .tuple r1 ∨ d = .tuple r2 ∨ d = .tuple (List.take at' row ++ List.drop (at' + 1) row) ∨ d = .tuple (List.take at' row ++ [odd] ++ List.drop at' row) := by
      have : d ∈ [PyData.tuple r1, .tuple r2, .tuple (List.take at' row ++ List.drop (at' + 1) row), .tuple (List.take at' row ++ [odd] ++ List.drop at' row), .tuple (List.take at' row ++ [odd] ++ List.drop at' row)] := hd
      simp only [List.mem_cons, List.not_mem_nil, or_false] at this
      rcases this with h | h | h | h | h
      · exact .inl h
      · exact .inr (.inl h)
      · exact .inr (.inr (.inl h))
      · exact .inr (.inr (.inr h))
      · exact .inr (.inr (.inr h))
    rcases hd' with rfl | rfl | rfl | rfl
    · exact q' _ (fun d hd => .inl (h1 d hd)) l1
    · exact q' _ (fun d hd => .inl (h2 d hd)) l2
    · refine q' _ (fun d hd => ?_) ?_
      · rcases List.mem_append.mp hd with h | h
        · exact .inl (tk h)
        · exact .inl (dr h)
      · simp only [List.length_take, List.length_drop, List.length_append]; omega
    · exact last
/-! ### spoilt things -/
/-- an item: its repr has at most n signs, its depth is at most k -/
structure Wt (n k : Nat) (d : PyData) : Prop where
  sh : shOk d = true
  sz : szD d ≤ n
  dp : d.depth ≤ k
theorem Wt.mono {n k n' k' : Nat} {d : PyData} (h : Wt n k d) (hn : n ≤ n' := by decide) (hk : k ≤ k' := by decide) : Wt n' k' d := ⟨h.sh, Nat.le_trans h.sz hn, Nat.le_trans h.dp hk⟩
theorem wtA {n k : Nat} : ∀ {ds : List PyData}, (∀ d ∈ ds, Wt n k d) → shOkA ds = true ∧ szA ds ≤ ds.length * (n + 2) ∧ PyData.depthAll ds ≤ k
  | [], _ => ⟨rfl, Nat.zero_le _, Nat.zero_le _⟩
  | d :: r, h => by
    have h1 := h d List.mem_cons_self
    have h2 := wtA fun x hx => h x (List.mem_cons_of_mem d hx)
    have z1 := h1.sz
    have z2 := h2.2.1
    have z3 := h1.dp
    have z4 := h2.2.2
    refine ⟨?_, ?_, ?_⟩
    · unfold shOkA; rw [h1.sh, h2.1]; rfl
    · unfold szA; rw [List.length_cons, Nat.add_mul]; omega
    · simp only [PyData.depthAll]; omega
theorem Wt.tup {n k m : Nat} {ds : List PyData} (h : ∀ d ∈ ds, Wt n k d) (hm : 3 + ds.length * (n + 2) ≤ m) : Wt m (k + 1) (.tuple ds) := by
  have z := wtA h
  have z1 := z.2.1
  have z2 := z.2.2
  refine ⟨?_, ?_, ?_⟩
  · unfold shOk; exact z.1
  · unfold szD; omega
  · simp only [PyData.depth]; omega
theorem Wt.lst {n k m : Nat} {ds : List PyData} (h : ∀ d ∈ ds, Wt n k d) (hm : 3 + ds.length * (n + 2) ≤ m) : Wt m (k + 1) (.list ds) := by
  have z := wtA h
  have z1 := z.2.1
  have z2 := z.2.2
  refine ⟨?_, ?_, ?_⟩
  · unfold shOk; exact z.1
  · unfold szD; omega
  · simp only [PyData.depth]; omega
theorem wt_int {a : Int} (h0 : -1000 ≤ a) (h1 : a ≤ 1000000) : Wt 61 0 (.int a) := by
  refine ⟨?_, Nat.le_refl _, Nat.le_refl _⟩
  unfold shOk
  exact decide_eq_true (Nat.lt_of_le_of_lt (by omega : a.natAbs ≤ 1000000) (by decide))
theorem wt_drawn {d : PyData} (h : drawnNum d) : Wt 61 0 d := by
  rcases h with rfl | ⟨i, rfl, h0, h1⟩
  · exact ⟨rfl, by decide, by decide⟩
  · exact wt_int (by omega) (by omega)
theorem wt_two {a b : Int} (h0 : -1000 ≤ a) (h1 : a ≤ 1000000) (h2 : -1000 ≤ b) (h3 : b ≤ 1000000) : ∀ d ∈ [PyData.int a, .int b], Wt 61 0 d := fun d hd => by
  rcases List.mem_cons.mp hd with rfl | hd
  · exact wt_int h0 h1
  · rw [List.mem_singleton.mp hd]; exact wt_int h2 h3
theorem wt_small {d : PyData} (h : smallPair d) : Wt 129 1 d := by
  obtain ⟨a, b, rfl, h0, h1, h2, h3⟩ := h
  exact Wt.tup (k := 0) (wt_two (by omega) (by omega) (by omega) (by omega)) (show 3 + 2 * 63 ≤ 129 by decide)
/-- a row of a thing: at most L items -/
structure Row (L : Nat) (y : PyData) : Prop where
  wt : Wt 22100 3 y
  len : ∀ es, y = .tuple es → es.length ≤ L
structure Fine (L : Nat) (y : PyData) : Prop where
  wt : y = .dict [] ∨ Wt 95000 5 y
  len : ∀ ds, y = .tuple ds → ∀ d ∈ ds, ∀ es, d = .tuple es → es.length ≤ L
theorem fine_tup {L : Nat} {ds : List PyData} (h : ∀ d ∈ ds, Row L d) (hl : ds.length ≤ 4) : Fine L (.tuple ds) := by
  refine ⟨.inr (Wt.mono (Wt.tup (k := 3) (fun d hd => (h d hd).wt) (m := 95000) ?_)), ?_⟩
  · have : ds.length * (22100 + 2) ≤ 4 * (22100 + 2) := Nat.mul_le_mul_right _ hl
    omega
  · rintro es e d hd fs rfl
    cases e
    exact (h _ hd).len fs rfl
theorem fine_lst {L : Nat} {ds : List PyData} (h : ∀ d ∈ ds, Row L d) (hl : ds.length ≤ 4) : Fine L (.list ds) := by
  refine ⟨.inr (Wt.mono (Wt.lst (k := 3) (fun d hd => (h d hd).wt) (m := 95000) ?_)), ?_⟩
  · have : ds.length * (22100 + 2) ≤ 4 * (22100 + 2) := Nat.mul_le_mul_right _ hl
    omega
  · rintro es e
    cases e
theorem row_tup {L : Nat} {ds : List PyData} (h : ∀ d ∈ ds, Wt 300 2 d) (hl : ds.length ≤ L) (hL : L ≤ 73) : Row L (.tuple ds) := by
  refine ⟨Wt.tup (k := 2) h ?_, fun es e => by cases e; exact hl⟩
  have : ds.length * (300 + 2) ≤ 73 * (300 + 2) := Nat.mul_le_mul_right _ (by omega)
  omega
theorem row_lst {L : Nat} {ds : List PyData} (h : ∀ d ∈ ds, Wt 300 2 d) (hl : ds.length ≤ L) (hL : L ≤ 73) : Row L (.list ds) := by
  refine ⟨Wt.lst (k := 2) h ?_, fun es e => by cases e⟩
  have : ds.length * (300 + 2) ≤ 73 * (300 + 2) := Nat.mul_le_mul_right _ (by omega)
  omega
theorem Pty.rows {L : Nat} {ns ms as : List PyData} (h : Pty L ns ms as) (hL : L ≤ 73) (h8 : 8 ≤ L) : Row L (.tuple ns) ∧ Row L (.tuple ms) ∧ Row L (.tuple as) :=
  ⟨row_tup (fun d hd => (wt_drawn (h.num d hd)).mono) (Nat.le_trans h.n8 h8) hL, row_tup (fun d hd => (wt_small (h.mp d hd)).mono) h.ml hL, row_tup (fun d hd => (wt_small (h.ap d hd)).mono) h.al hL⟩
theorem Row.mono {L M : Nat} {y : PyData} (h : Row L y) (hm : L ≤ M) : Row M y := ⟨h.wt, fun es e => Nat.le_trans (h.len es e) hm⟩
end
end K02

namespace K02
open PySem PySem.Spec PyProof.Rows L2 DL
section
variable {P : Program} {w : World} {K : PySem.W.Frag} {mg : Str → Option Value} {base : Heap}
def c_spoilt : DC := fun xs Q => ∃ L ns ms as, xs = [.tuple [.tuple ns, .tuple ms, .tuple as]] ∧ Pty L ns ms as ∧ 8 ≤ L ∧ L ≤ 72 ∧ ∀ y, Fine (max 72 (L + 1)) y → Q (.k y)
theorem ok_spoilt (T : Txt K mg) (G__law_below : OkP P w K mg base "_law_below" s__law_below ["pot", "bound"] 2 c_below) (G__law_pick : OkP P w K mg base "_law_pick" s__law_pick ["pot", "items"] 3 c_pick)
    (G__law_muddled : OkP P w K mg base "_law_muddled" s__law_muddled ["pot", "row", "odd"] 4 c_muddled) :
    OkP P w K mg base "_law_spoilt" s__law_spoilt ["pot", "party"] 5 c_spoilt := by
  refine okP T.d__law_spoilt sc__law_spoilt (fun xs QD ⟨L, r, o, u, e, _⟩ => by rw [e]; rfl) (by decide) fun f cdv A outer s H E hg hr => ⟨_, (ds_cons (ds_asg (de_var 1) (dg_tup (n := 3) rfl (dgs_cons (dg_name (i := 2) sc__law_spoilt.nd) (dgs_cons (dg_name (i := 3) sc__law_spoilt.nd) (dgs_cons (dg_name (i := 4) sc__law_spoilt.nd) dgs_nil))))) (ds_cons (ds_parS (i := 5) (j := 6) (de_fnP 0 G__law_below hg (hr.mono (by decide)) (da_cons de_int da_nil)) (de_callB cr_len cd_len rfl T.m_len (by decide +kernel) (da_cons (de_var 2) da_nil)) fun _ _ a b => ps_par rfl sc__law_spoilt.nd rfl rfl (by decide) rfl rfl (pa_cons a (pa_cons b pa_nil)) (by rfl)) (ds_cons (ds_if (dt_cmp (cm_eq hr.units) (de_var 5) de_int) (ds_one (ds_ret (de_fnP 0 G__law_pick hg (hr.mono (by decide)) (da_cons (de_lst (da_cons de_non (da_cons (de_tup da_nil) (da_cons (de_sl (de_var 1) do_none (do_some de_int)) (da_cons (de_add (de_var 1) (de_tup (da_cons (de_tup da_nil) da_nil))) (da_cons (de_callTy call_list_of cd_list rfl T.m_list (by decide +kernel) (da_cons (de_var 1) da_nil)) (da_cons (de_rev (de_var 1)) (da_cons (de_var 2) (da_cons de_dict0 da_nil))))))))) da_nil)))) ds_nil) (ds_cons (ds_if (dt_cmp (cm_lt hr.units) (de_var 5) de_int) (ds_cons (ds_set (i := 7) sc__law_spoilt.nd (de_fnP 0 G__law_pick hg (hr.mono (by decide)) (da_cons (de_lst (da_cons de_non (da_cons de_bl (da_cons (de_sub de_int de_int) (da_cons de_int (da_cons de_int (da_cons de_str (da_cons (de_tup (da_cons de_int da_nil)) (da_cons de_int (da_cons de_int da_nil)))))))))) da_nil))) (ds_one (ds_ret (de_tup (da_cons (de_fnP 0 G__law_pick hg (hr.mono (by decide)) (da_cons (de_lst (da_cons (de_fnP 0 G__law_muddled hg (hr.mono (by decide)) (da_cons (de_var 2) (da_cons (de_var 7) da_nil))) (da_cons (de_callTy call_list_of cd_list rfl T.m_list (by decide +kernel) (da_cons (de_var 2) da_nil)) (da_cons (de_tup da_nil) (da_cons (de_mul (de_var 2) de_int) (da_cons (de_var 7) da_nil)))))) da_nil)) (da_cons (de_var 3) (da_cons (de_var 4) da_nil))))))) ds_nil) (ds_cons (ds_set (i := 8) sc__law_spoilt.nd (de_tup (da_cons (de_fnP 0 G__law_below hg (hr.mono (by decide)) (da_cons (de_var 6) da_nil)) (da_cons (de_fnP 0 G__law_below hg (hr.mono (by decide)) (da_cons (de_add (de_var 6) de_int) da_nil)) da_nil)))) (ds_cons (ds_set (i := 7) sc__law_spoilt.nd (de_lst (da_cons (de_var 8) (da_cons (de_var 8) (da_cons (de_rev (de_var 8)) (da_cons (de_callTy call_list_of cd_list rfl T.m_list (by decide +kernel) (da_cons (de_var 8) da_nil)) (da_cons (de_add (de_var 8) (de_tup (da_cons de_int da_nil))) (da_cons (de_sl (de_var 8) do_none (do_some de_int)) (da_cons (de_tup (da_cons de_bl (da_cons de_bl da_nil))) (da_cons (de_tup (da_cons de_int (da_cons de_str da_nil))) (da_cons de_non (da_cons de_int (da_cons (de_tup (da_cons de_int (da_cons de_bl da_nil))) da_nil))))))))))))) (ds_cons (ds_set (i := 7) sc__law_spoilt.nd (de_fnP 0 G__law_pick hg (hr.mono (by decide)) (da_cons (de_add (de_var 7) (de_lst (da_cons (de_tup (da_cons de_bl (da_cons de_int da_nil))) (da_cons (de_tup (da_cons (de_sub de_int de_int) (da_cons de_int da_nil))) (da_cons (de_tup (da_cons (de_lst (da_cons de_int da_nil)) (da_cons de_int da_nil))) da_nil))))) da_nil))) (ds_cons (ds_set (i := 9) sc__law_spoilt.nd (de_fnP 0 G__law_muddled hg (hr.mono (by decide)) (da_cons (de_if (dt_cmp (cm_lt hr.units) (de_var 5) de_int) (de_var 3) (de_var 4)) (da_cons (de_var 7) da_nil)))) (ds_cons (ds_set (i := 9) sc__law_spoilt.nd (de_fnP 0 G__law_pick hg (hr.mono (by decide)) (da_cons (de_lst (da_cons (de_var 9) (da_cons (de_var 9) (da_cons (de_var 9) (da_cons (de_callTy call_list_of cd_list rfl T.m_list (by decide +kernel) (da_cons (de_var 9) da_nil)) (da_cons (de_var 7) da_nil)))))) da_nil))) (ds_one (ds_ret (de_if (dt_cmp (cm_lt hr.units) (de_var 5) de_int) (de_tup (da_cons (de_var 2) (da_cons (de_var 9) (da_cons (de_var 4) da_nil)))) (de_tup (da_cons (de_var 2) (da_cons (de_var 3) (da_cons (de_var 9) da_nil)))))))))))))))), fun xs QD ⟨L, ns, ms, as, e, hP, h8, hL, q⟩ => ?_⟩
  subst e
  have hrow := hP.rows (by omega) h8
  have three : ∀ d ∈ [PyData.tuple ns, .tuple ms, .tuple as], Row L d := fun d hd => by
    simp only [List.mem_cons, List.not_mem_nil, or_false] at hd
    rcases hd with rfl | rfl | rfl
    · exact hrow.1
    · exact hrow.2.1
    · exact hrow.2.2
  have three' := fun d hd => (three d hd).mono (show L ≤ max 72 (L + 1) by omega)
  show dSeq _ _ _ [.pot, .sh (.tuple [.tuple ns, .tuple ms, .tuple as]), .un, .un, .un, .un, .un, .un, .un, .un]
  refine dSeq_cut (fun ρ => ρ = [.pot, .sh (.tuple [.tuple ns, .tuple ms, .tuple as]), .sh (.tuple ns), .sh (.tuple ms), .sh (.tuple as), .un, .un, .un, .un, .un]) (fun N hN => ?_) ?_
  · simp only [dRet, dAnd, dOr, dNot, dIf, dAndT, dOrT, dNotT, dTest, dChain, dIsi, dVar, dC, dOp, dUn, dTup, dLst, dCons, dNil, dCallB, dCall, dCallP, dSl, dSlS, dPart, dNoPart, dLc, dSet, dIfS, dFor, dAsg, dPar, dApp, dSetIx, dDrop, dSeq, dNext, dStore, diSeq, diRange1, diRange2, diZip, gdName, gdTup, gdCons, gdNil, dYes, oI, oI0, oLe, oGt, oGe, OpdData, toDs, isT_int, isT_bool, isT_tuple, isT_str, List.map_cons, List.map_nil, List.getElem?_cons_zero, List.getElem?_cons_succ, List.set_cons_zero, List.set_cons_succ]
    exact ⟨_, rfl, rfl, rfl, rfl, rfl, hN _ rfl⟩
  rintro ρ rfl
  refine dSeq_cut (fun ρ => ∃ c : Int, ρ = [.pot, .sh (.tuple [.tuple ns, .tuple ms, .tuple as]), .sh (.tuple ns), .sh (.tuple ms), .sh (.tuple as), .sh (.int c), .sh (.int ns.length), .un, .un, .un]) (fun N hN => ?_) ?_
  · simp only [dRet, dAnd, dOr, dNot, dIf, dAndT, dOrT, dNotT, dTest, dChain, dIsi, dVar, dC, dOp, dUn, dTup, dLst, dCons, dNil, dCallB, dCall, dCallP, dSl, dSlS, dPart, dNoPart, dLc, dSet, dIfS, dFor, dAsg, dPar, dApp, dSetIx, dDrop, dSeq, dNext, dStore, diSeq, diRange1, diRange2, diZip, gdName, gdTup, gdCons, gdNil, dYes, oI, oI0, oLe, oGt, oGe, OpdData, toDs, isT_int, isT_bool, isT_tuple, isT_str, List.map_cons, List.map_nil, List.getElem?_cons_zero, List.getElem?_cons_succ, List.set_cons_zero, List.set_cons_succ, oLen, c_below]
    exact ⟨by trivial, _, rfl, 8, rfl, by decide, by decide, fun r hr0 hr1 => ⟨⟨_, rfl⟩, rfl, rfl, hN _ ⟨r, rfl⟩⟩⟩
  rintro ρ ⟨c, rfl⟩
  refine dSeq_cut (fun ρ => ρ = [.pot, .sh (.tuple [.tuple ns, .tuple ms, .tuple as]), .sh (.tuple ns), .sh (.tuple ms), .sh (.tuple as), .sh (.int c), .sh (.int ns.length), .un, .un, .un]) (fun N hN => ?_) ?_
  · simp only [dRet, dAnd, dOr, dNot, dIf, dAndT, dOrT, dNotT, dTest, dChain, dIsi, dVar, dC, dOp, dUn, dTup, dLst, dCons, dNil, dCallB, dCall, dCallP, dSl, dSlS, dPart, dNoPart, dLc, dSet, dIfS, dFor, dAsg, dPar, dApp, dSetIx, dDrop, dSeq, dNext, dStore, diSeq, diRange1, diRange2, diZip, gdName, gdTup, gdCons, gdNil, dYes, oI, oI0, oLe, oGt, oGe, OpdData, toDs, isT_int, isT_bool, isT_tuple, isT_str, List.map_cons, List.map_nil, List.getElem?_cons_zero, List.getElem?_cons_succ, List.set_cons_zero, List.set_cons_succ, oEq, oSl, oAdd, oRev, oList, c_pick]
    refine ⟨shp_int _, shp_int _, ?_⟩
    split
    · refine ⟨by trivial, [], rfl, by decide, [], rfl, by decide, _, rfl, (by decide : 1 ≤ 100000), (by decide : 4 ≤ 100000), _, rfl, (by decide : 8 ≤ 100000), _, rfl, _, rfl, (by decide : 0 < 8), (by decide : 8 ≤ 1000), fun d hd => q _ ?_⟩
      simp only [List.mem_cons, List.not_mem_nil, or_false] at hd
      rcases hd with rfl | rfl | rfl | rfl | rfl | rfl | rfl | rfl
      · exact ⟨.inr ⟨rfl, by decide +kernel, by decide +kernel⟩, fun ds e => by cases e⟩
      · exact fine_tup (ds := []) (fun d h => nomatch h) (by decide)
      · exact fine_tup (fun d h => three' d (cutD_mem h)) (Nat.le_trans (cutD_len _ _ _) (by decide : 3 ≤ 4))
      · refine fine_tup (fun d h => ?_) (by decide : 4 ≤ 4)
        rcases List.mem_append.mp h with h | h
        · exact three' d h
        · rw [List.mem_singleton.mp h]
          exact (row_tup (ds := []) (L := 0) (fun d h => nomatch h) (by decide) (by decide)).mono (Nat.zero_le _)
      · exact fine_lst three' (by decide : 3 ≤ 4)
      · exact fine_tup (fun d h => three' d (List.mem_reverse.mp h)) (by decide : 3 ≤ 4)
      · refine ⟨.inr (hrow.1.wt.mono), fun ds e d hd es e2 => ?_⟩
        cases e
        rcases hP.num d hd with z | ⟨i, z, _⟩
        · rw [z] at e2; cases e2
        · rw [z] at e2; cases e2
      · exact ⟨.inl rfl, fun ds e => by cases e⟩
    · exact hN _ rfl
  rintro ρ rfl
  refine dSeq_cut (fun ρ => ρ = [.pot, .sh (.tuple [.tuple ns, .tuple ms, .tuple as]), .sh (.tuple ns), .sh (.tuple ms), .sh (.tuple as), .sh (.int c), .sh (.int ns.length), .un, .un, .un]) (fun N hN => ?_) ?_
  · simp only [dRet, dAnd, dOr, dNot, dIf, dAndT, dOrT, dNotT, dTest, dChain, dIsi, dVar, dC, dOp, dUn, dTup, dLst, dCons, dNil, dCallB, dCall, dCallP, dSl, dSlS, dPart, dNoPart, dLc, dSet, dIfS, dFor, dAsg, dPar, dApp, dSetIx, dDrop, dSeq, dNext, dStore, diSeq, diRange1, diRange2, diZip, gdName, gdTup, gdCons, gdNil, dYes, oI, oI0, oLe, oGt, oGe, OpdData, toDs, isT_int, isT_bool, isT_tuple, isT_str, List.map_cons, List.map_nil, List.getElem?_cons_zero, List.getElem?_cons_succ, List.set_cons_zero, List.set_cons_succ, oLt, oMul, oAdd, oList, oInt, c_pick, c_muddled]
    split
    · have hne : ns ≠ [] := fun z => by have := hP.n1; rw [z] at this; exact absurd this (by decide)
      have hn8 := hP.n8
      refine ⟨by trivial, _, rfl, (by decide : 1 ≤ 100000), _, rfl, (by decide : 9 ≤ 100000), _, rfl, _, rfl, (by decide : 0 < 9), (by decide : 9 ≤ 1000), fun d hd => ?_⟩
      have hw : Wt 300 2 d ∧ ∀ es, d = .tuple es → es.length ≤ 1 := by
        simp only [List.mem_cons, List.not_mem_nil, or_false] at hd
        rcases hd with rfl | rfl | rfl | rfl | rfl | rfl | rfl | rfl | rfl
        all_goals exact ⟨⟨by decide +kernel, by decide +kernel, by decide +kernel⟩, fun es e => by cases e <;> decide⟩
      have num : ∀ d ∈ ns, Wt 300 2 d := fun d hd => (wt_drawn (hP.num d hd)).mono
      refine ⟨rfl, by trivial, by trivial, _, rfl, ns, d, rfl, by omega, fun r hr hrl => ⟨[], rfl, by decide, hne, by decide, by decide, by omega, _, rfl, (by decide : 5 ≤ 100000), _, rfl, _, rfl, (by decide : 0 < 5), (by decide : 5 ≤ 1000), fun y hy => ?_⟩⟩
      have hy' : Row (max 72 (L + 1)) y := by
        simp only [List.mem_cons, List.not_mem_nil, or_false] at hy
        rcases hy with rfl | rfl | rfl | rfl | rfl
        · refine row_tup (fun e he => ?_) (by omega) (by omega)
          rcases hr e he with h | rfl
          · exact num e h
          · exact hw.1
        · exact row_lst num (by omega) (by omega)
        · exact row_tup (ds := []) (fun e h => nomatch h) (Nat.zero_le _) (by omega)
        · refine row_tup (fun e he => ?_) ?_ (by omega)
          · obtain ⟨l, hl, he⟩ := List.mem_flatten.mp he
            rw [List.eq_of_mem_replicate hl] at he
            exact num e he
          · rw [PyProof.Rows.lm_len_rep_flat]
            have : (9 : Int).toNat * ns.length ≤ 9 * 8 := Nat.mul_le_mul (by decide) hn8
            omega
        · exact ⟨hw.1.mono, fun es e => Nat.le_trans (hw.2 es e) (by omega)⟩
      refine ⟨_, rfl, (by decide : 3 ≤ 100000), q _ (fine_tup (fun e he => ?_) (by decide : 3 ≤ 4))⟩
      simp only [List.mem_cons, List.not_mem_nil, or_false] at he
      rcases he with rfl | rfl | rfl
      · exact hy'
      · exact three' _ (by simp)
      · exact three' _ (by simp)
    · exact hN _ rfl
  rintro ρ rfl
  refine dSeq_cut (fun ρ => ∃ a b : Int, 0 ≤ a ∧ a < 9 ∧ 0 ≤ b ∧ b < 9 ∧ ρ = [.pot, .sh (.tuple [.tuple ns, .tuple ms, .tuple as]), .sh (.tuple ns), .sh (.tuple ms), .sh (.tuple as), .sh (.int c), .sh (.int ns.length), .un, .sh (.tuple [.int a, .int b]), .un]) (fun N hN => ?_) ?_
  · have hn1 := hP.n1
    have hn8 := hP.n8
    simp only [dRet, dAnd, dOr, dNot, dIf, dAndT, dOrT, dNotT, dTest, dChain, dIsi, dVar, dC, dOp, dUn, dTup, dLst, dCons, dNil, dCallB, dCall, dCallP, dSl, dSlS, dPart, dNoPart, dLc, dSet, dIfS, dFor, dAsg, dPar, dApp, dSetIx, dDrop, dSeq, dNext, dStore, diSeq, diRange1, diRange2, diZip, gdName, gdTup, gdCons, gdNil, dYes, oI, oI0, oLe, oGt, oGe, OpdData, toDs, isT_int, isT_bool, isT_tuple, isT_str, List.map_cons, List.map_nil, List.getElem?_cons_zero, List.getElem?_cons_succ, List.set_cons_zero, List.set_cons_succ, oAdd, c_below]
    exact ⟨by trivial, _, rfl, _, rfl, by omega, by omega, fun r hr0 hr1 => ⟨by trivial, _, rfl, _, rfl, by omega, by omega, fun u hu0 hu1 => ⟨_, rfl, (by decide : 2 ≤ 100000), rfl, hN _ ⟨r, u, hr0, by omega, hu0, by omega, rfl⟩⟩⟩⟩
  rintro ρ ⟨a, b, ha0, ha1, hb0, hb1, rfl⟩
  refine dSeq_cut (fun ρ => ∃ os, (∀ d ∈ os, Wt 300 2 d ∧ ∀ es, d = .tuple es → es.length ≤ 3) ∧ os.length = 11 ∧ ρ = [.pot, .sh (.tuple [.tuple ns, .tuple ms, .tuple as]), .sh (.tuple ns), .sh (.tuple ms), .sh (.tuple as), .sh (.int c), .sh (.int ns.length), .own os, .sh (.tuple [.int a, .int b]), .un]) (fun N hN => ?_) ?_
  · have wa : Wt 61 0 (.int a) := wt_int (by omega) (by omega)
    have wb : Wt 61 0 (.int b) := wt_int (by omega) (by omega)
    have w0 : Wt 61 0 (.int 0) := wt_int (by decide) (by decide)
    simp only [e_dRet, e_dOr, e_dAnd, e_dNot, e_dIf, e_dAndT, e_dOrT, e_dNotT, e_dChain, e_dIsi, e_dC, e_dOp, e_dUn, e_dTup, e_dLst, e_dCons, e_dNil, e_dCallB, e_dCall, e_dCallP, e_dSl, e_dSlS, e_oSlS, e_dNoPart, e_dLc, e_dLc2, e_dSet, e_dIfS, e_dFor, e_dAsg, e_dPar, e_dApp, e_dSetIx, e_dDrop, e_dSeq, e_dNext, e_diSeq, e_diRange1, e_diRange2, e_diZip, e_diEnum, e_gdName, e_gdTup, e_gdCons, e_gdNil, e_dYes, isT_int, OpdData, toDs, isT_bool, isT_tuple, isT_str, rd_var, rd_sh, rd_own, rd_al, rd_alo, dt_k, dt_r, dt_f, dn_k, dn_r, dn_f, dr_k, dr_r, dr_f, dd_k, dd_f, o_add_i, o_add_s, o_add_l, o_add_t, o_mul_i, o_mul_l, o_mul_t, o_ix_l, o_ix_t, o_sl_l, o_sl_t, o_rev_l, o_rev_t, o_list_l, o_list_t, o_tuple_l, o_tuple_t, o_len_l, o_len_t, o_int_i, o_abs_i, o_lt_i, o_lt_t, o_inl, o_int, o_ii, o_i0, tb_test, tb_b, pt_part, pt_i, st_k, st_f, st_r, List.map_cons, List.map_nil, List.getElem?_cons_zero, List.getElem?_cons_succ, List.set_cons_zero, List.set_cons_succ]
    have two : ∀ d ∈ [PyData.int a, .int b], Wt 61 0 d := wt_two (by omega) (by omega) (by omega) (by omega)
    have wt2 : Wt 300 2 (.tuple [.int a, .int b]) := (Wt.tup (m := 300) (k := 0) two (show 3 + 2 * 63 ≤ 300 by decide)).mono
    have wt3 : Wt 300 2 (.tuple [.int a, .int b, .int 0]) := (Wt.tup (m := 300) (k := 0) (fun d hd => by
      simp only [List.mem_cons, List.not_mem_nil, or_false] at hd
      rcases hd with rfl | rfl | rfl
      · exact wa
      · exact wb
      · exact w0) (show 3 + 3 * 63 ≤ 300 by decide)).mono
    have wtr : Wt 300 2 (.tuple [.int b, .int a]) := (Wt.tup (m := 300) (k := 0) (wt_two (by omega) (by omega) (by omega) (by omega)) (show 3 + 2 * 63 ≤ 300 by decide)).mono
    have wtl : Wt 300 2 (.list [.int a, .int b]) := (Wt.lst (m := 300) (k := 0) two (show 3 + 2 * 63 ≤ 300 by decide)).mono
    have wtc : Wt 300 2 (.tuple (DL.cutD [.int a, .int b] none (some 1))) := (Wt.tup (m := 300) (k := 0) (fun d hd => two d (cutD_mem hd)) (by
      have := cutD_len [PyData.int a, .int b] none (some 1)
      have h : ([PyData.int a, .int b]).length = 2 := rfl
      omega)).mono
    refine ⟨_, rfl, (by decide : 1 ≤ 100000), (by decide : 3 ≤ 100000), _, rfl, (by decide : 2 ≤ 100000), _, rfl, (by decide : 2 ≤ 100000), _, rfl, (by decide : 2 ≤ 100000), _, rfl, (by decide : 11 ≤ 100000), rfl, hN _ ⟨_, fun d hd => ?_, rfl, rfl⟩⟩
    simp only [List.mem_cons, List.not_mem_nil, or_false] at hd
    rcases hd with rfl | rfl | rfl | rfl | rfl | rfl | rfl | rfl | rfl | rfl | rfl
    · exact ⟨wt2, fun es e => by cases e; exact Nat.le_of_ble_eq_true rfl⟩
    · exact ⟨wt2, fun es e => by cases e; exact Nat.le_of_ble_eq_true rfl⟩
    · exact ⟨wtr, fun es e => by cases e; exact Nat.le_of_ble_eq_true rfl⟩
    · exact ⟨wtl, fun es e => by cases e⟩
    · exact ⟨wt3, fun es e => by cases e; exact Nat.le_of_ble_eq_true rfl⟩
    · exact ⟨wtc, fun es e => by cases e; exact Nat.le_trans (cutD_len _ _ _) (Nat.le_of_ble_eq_true rfl)⟩
    · exact ⟨⟨by decide +kernel, by decide +kernel, by decide +kernel⟩, fun es e => by cases e; exact Nat.le_of_ble_eq_true rfl⟩
    · exact ⟨⟨by decide +kernel, by decide +kernel, by decide +kernel⟩, fun es e => by cases e; exact Nat.le_of_ble_eq_true rfl⟩
    · exact ⟨⟨by decide +kernel, by decide +kernel, by decide +kernel⟩, fun es e => by cases e⟩
    · exact ⟨w0.mono, fun es e => by cases e⟩
    · exact ⟨⟨by decide +kernel, by decide +kernel, by decide +kernel⟩, fun es e => by cases e; exact Nat.le_of_ble_eq_true rfl⟩
  rintro ρ ⟨os, hos, hol, rfl⟩
  refine dSeq_cut (fun ρ => ∃ d, (Wt 300 2 d ∧ ∀ es, d = .tuple es → es.length ≤ 3) ∧ ρ = [.pot, .sh (.tuple [.tuple ns, .tuple ms, .tuple as]), .sh (.tuple ns), .sh (.tuple ms), .sh (.tuple as), .sh (.int c), .sh (.int ns.length), .sh d, .sh (.tuple [.int a, .int b]), .un]) (fun N hN => ?_) ?_
  · simp only [dRet, dAnd, dOr, dNot, dIf, dAndT, dOrT, dNotT, dTest, dChain, dIsi, dVar, dC, dOp, dUn, dTup, dLst, dCons, dNil, dCallB, dCall, dCallP, dSl, dSlS, dPart, dNoPart, dLc, dSet, dIfS, dFor, dAsg, dPar, dApp, dSetIx, dDrop, dSeq, dNext, dStore, diSeq, diRange1, diRange2, diZip, gdName, gdTup, gdCons, gdNil, dYes, oI, oI0, oLe, oGt, oGe, OpdData, toDs, isT_int, isT_bool, isT_tuple, isT_str, List.map_cons, List.map_nil, List.getElem?_cons_zero, List.getElem?_cons_succ, List.set_cons_zero, List.set_cons_succ, oAdd, oInt, c_pick]
    refine ⟨by trivial, _, rfl, (by decide : 2 ≤ 100000), _, rfl, (by decide : 2 ≤ 100000), _, rfl, (by decide : 1 ≤ 100000), _, rfl, (by decide : 2 ≤ 100000), _, rfl, (by decide : 3 ≤ 100000), ?_, _, rfl, _, rfl, ?_, ?_, fun d hd => ⟨rfl, hN _ ⟨d, ?_, rfl⟩⟩⟩
    · rw [hol]; decide
    · rw [List.length_append, hol]; decide
    · rw [List.length_append, hol]; decide
    · rcases List.mem_append.mp hd with hd | hd
      · exact hos d hd
      · simp only [List.mem_cons, List.not_mem_nil, or_false] at hd
        rcases hd with rfl | rfl | rfl
        all_goals exact ⟨⟨by decide +kernel, by decide +kernel, by decide +kernel⟩, fun es e => by cases e; exact Nat.le_of_ble_eq_true rfl⟩
  rintro ρ ⟨odd, hodd, rfl⟩
  have wm : ∀ d ∈ ms, Wt 300 2 d := fun d hd => (wt_small (hP.mp d hd)).mono
  have wn : ∀ d ∈ as, Wt 300 2 d := fun d hd => (wt_small (hP.ap d hd)).mono
  have hml := hP.ml
  have hal := hP.al
  refine dSeq_cut (fun ρ => ∃ r, (∀ d ∈ r, Wt 300 2 d) ∧ r.length ≤ L + 1 ∧ ρ = [.pot, .sh (.tuple [.tuple ns, .tuple ms, .tuple as]), .sh (.tuple ns), .sh (.tuple ms), .sh (.tuple as), .sh (.int c), .sh (.int ns.length), .sh odd, .sh (.tuple [.int a, .int b]), .sh (.tuple r)]) (fun N hN => ?_) ?_
  · simp only [dRet, dAnd, dOr, dNot, dIf, dAndT, dOrT, dNotT, dTest, dChain, dIsi, dVar, dC, dOp, dUn, dTup, dLst, dCons, dNil, dCallB, dCall, dCallP, dSl, dSlS, dPart, dNoPart, dLc, dSet, dIfS, dFor, dAsg, dPar, dApp, dSetIx, dDrop, dSeq, dNext, dStore, diSeq, diRange1, diRange2, diZip, gdName, gdTup, gdCons, gdNil, dYes, oI, oI0, oLe, oGt, oGe, OpdData, toDs, isT_int, isT_bool, isT_tuple, isT_str, List.map_cons, List.map_nil, List.getElem?_cons_zero, List.getElem?_cons_succ, List.set_cons_zero, List.set_cons_succ, oLt, c_muddled]
    refine ⟨by trivial, ?_⟩
    split
    · refine ⟨_, rfl, ms, odd, rfl, by omega, fun r hr hrl => ⟨rfl, hN _ ⟨r, fun d hd => ?_, by omega, rfl⟩⟩⟩
      rcases hr d hd with h | rfl
      · exact wm d h
      · exact hodd.1
    · refine ⟨_, rfl, as, odd, rfl, by omega, fun r hr hrl => ⟨rfl, hN _ ⟨r, fun d hd => ?_, by omega, rfl⟩⟩⟩
      rcases hr d hd with h | rfl
      · exact wn d h
      · exact hodd.1
  rintro ρ ⟨r, hr, hrl, rfl⟩
  refine dSeq_cut (fun ρ => ∃ y, Row (max 72 (L + 1)) y ∧ ρ = [.pot, .sh (.tuple [.tuple ns, .tuple ms, .tuple as]), .sh (.tuple ns), .sh (.tuple ms), .sh (.tuple as), .sh (.int c), .sh (.int ns.length), .sh odd, .sh (.tuple [.int a, .int b]), .sh y]) (fun N hN => ?_) ?_
  · simp only [dRet, dAnd, dOr, dNot, dIf, dAndT, dOrT, dNotT, dTest, dChain, dIsi, dVar, dC, dOp, dUn, dTup, dLst, dCons, dNil, dCallB, dCall, dCallP, dSl, dSlS, dPart, dNoPart, dLc, dSet, dIfS, dFor, dAsg, dPar, dApp, dSetIx, dDrop, dSeq, dNext, dStore, diSeq, diRange1, diRange2, diZip, gdName, gdTup, gdCons, gdNil, dYes, oI, oI0, oLe, oGt, oGe, OpdData, toDs, isT_int, isT_bool, isT_tuple, isT_str, List.map_cons, List.map_nil, List.getElem?_cons_zero, List.getElem?_cons_succ, List.set_cons_zero, List.set_cons_succ, oList, c_pick]
    have rt : Row (max 72 (L + 1)) (.tuple r) := row_tup hr (by omega) (by omega)
    have rl : Row (max 72 (L + 1)) (.list r) := row_lst hr (by omega) (by omega)
    refine ⟨by trivial, _, rfl, (by decide : 5 ≤ 100000), _, rfl, _, rfl, (by decide : 0 < 5), (by decide : 5 ≤ 1000), fun d hd => ⟨rfl, hN _ ⟨d, ?_, rfl⟩⟩⟩
    simp only [List.mem_cons, List.not_mem_nil, or_false] at hd
    rcases hd with rfl | rfl | rfl | rfl | rfl
    · exact rt
    · exact rt
    · exact rt
    · exact rl
    · exact ⟨hodd.1.mono, fun es e => Nat.le_trans (hodd.2 es e) (by omega)⟩
  rintro ρ ⟨y, hy, rfl⟩
  simp only [e_dRet, e_dOr, e_dAnd, e_dNot, e_dIf, e_dAndT, e_dOrT, e_dNotT, e_dChain, e_dIsi, e_dC, e_dOp, e_dUn, e_dTup, e_dLst, e_dCons, e_dNil, e_dCallB, e_dCall, e_dCallP, e_dSl, e_dSlS, e_oSlS, e_dNoPart, e_dLc, e_dLc2, e_dSet, e_dIfS, e_dFor, e_dAsg, e_dPar, e_dApp, e_dSetIx, e_dDrop, e_dSeq, e_dNext, e_diSeq, e_diRange1, e_diRange2, e_diZip, e_diEnum, e_gdName, e_gdTup, e_gdCons, e_gdNil, e_dYes, isT_int, OpdData, toDs, isT_bool, isT_tuple, isT_str, rd_var, rd_sh, rd_own, rd_al, rd_alo, dt_k, dt_r, dt_f, dn_k, dn_r, dn_f, dr_k, dr_r, dr_f, dd_k, dd_f, o_add_i, o_add_s, o_add_l, o_add_t, o_mul_i, o_mul_l, o_mul_t, o_ix_l, o_ix_t, o_sl_l, o_sl_t, o_rev_l, o_rev_t, o_list_l, o_list_t, o_tuple_l, o_tuple_t, o_len_l, o_len_t, o_int_i, o_abs_i, o_lt_i, o_lt_t, o_inl, o_int, o_ii, o_i0, tb_test, tb_b, pt_part, pt_i, st_k, st_f, st_r, List.map_cons, List.map_nil, List.getElem?_cons_zero, List.getElem?_cons_succ, List.set_cons_zero, List.set_cons_succ]
  split
  all_goals
    refine ⟨_, rfl, (by decide : 3 ≤ 100000), q _ (fine_tup (fun e he => ?_) (by decide : 3 ≤ 4))⟩
    simp only [List.mem_cons, List.not_mem_nil, or_false] at he
    rcases he with rfl | rfl | rfl
    all_goals first | exact hy | exact three' _ (by simp)
end
end K02

namespace K02
open PySem PySem.Spec PyProof.Rows L2 DL
section
variable {P : Program} {w : World} {K : PySem.W.Frag} {mg : Str → Option Value} {base : Heap}
/-- nothing of the pot, no other name of a list -/
def Free (x : Sl) : Prop := x ≠ .pot ∧ ∀ j, x ≠ .al j
theorem Free.un : Free .un := ⟨(fun h => nomatch h), (fun j h => nomatch h)⟩
theorem Free.sh {d : PyData} : Free (.sh d) := ⟨(fun h => nomatch h), (fun j h => nomatch h)⟩
theorem Free.own {d : List PyData} : Free (.own d) := ⟨(fun h => nomatch h), (fun j h => nomatch h)⟩
theorem okSet_of {ρ : List Sl} {i : Nat} (h : ∀ x ∈ ρ, ∀ j, x ≠ .al j) (h2 : ρ[i]? ≠ some .pot) : okSet ρ i = true := by
  unfold okSet
  refine Bool.and_eq_true_iff.mpr ⟨?_, List.all_eq_true.mpr fun x hx => ?_⟩
  · split
    · rename_i e; exact absurd e h2
    · rfl
  · split
    · rename_i j; exact absurd rfl (h _ hx j)
    · rfl
theorem ok10 {a b c d e f g h : Sl} {i : Nat} (hi : 2 ≤ i := by decide) (ha : Free a := by first | assumption | exact Free.sh | exact Free.own) (hb : Free b := by first | assumption | exact Free.sh | exact Free.own)
    (hc : Free c := by first | assumption | exact Free.sh | exact Free.own) (hd : Free d := by first | assumption | exact Free.sh | exact Free.own) (he : Free e := by first | assumption | exact Free.sh | exact Free.own)
    (hf : Free f := by first | assumption | exact Free.sh | exact Free.own) (hg : Free g := by first | assumption | exact Free.sh | exact Free.own) (hh : Free h := by first | assumption | exact Free.sh | exact Free.own) :
    okSet [.un, .pot, a, b, c, d, e, f, g, h] i = true := by
  have all : ∀ x ∈ [a, b, c, d, e, f, g, h], Free x := fun x hx => by
    simp only [List.mem_cons, List.not_mem_nil, or_false] at hx
    rcases hx with rfl | rfl | rfl | rfl | rfl | rfl | rfl | rfl <;> assumption
  refine okSet_of (fun x hx j => ?_) fun z => ?_
  · rcases List.mem_cons.mp hx with rfl | hx
    · exact Free.un.2 j
    · rcases List.mem_cons.mp hx with rfl | hx
      · exact fun h => nomatch h
      · exact (all x hx).2 j
  · match i, hi, z with
    | k + 2, _, z => exact (all _ (List.mem_of_getElem? z)).1 rfl
theorem Fine.mono {L M : Nat} {y : PyData} (h : Fine L y) (hm : L ≤ M) : Fine M y := ⟨h.wt, fun ds e d hd es e2 => Nat.le_trans (h.len ds e d hd es e2) hm⟩
theorem Fine.small {L : Nat} {y : PyData} (h : Fine L y) (hL : L ≤ 1000) : smallD y = true := by
  cases y with
  | tuple ds =>
    refine List.all_eq_true.mpr fun d hd => ?_
    cases d with
    | tuple es => exact decide_eq_true (Nat.le_trans (h.len ds rfl _ hd es rfl) hL)
    | _ => rfl
  | _ => rfl
theorem pty_of {y : PyData} (h : partyOk y = true) (hf : Fine 72 y) : ∃ ns ms as, y = .tuple [.tuple ns, .tuple ms, .tuple as] ∧ Pty 72 ns ms as := by
  unfold partyOk at h
  split at h
  · rename_i n a b
    simp only [Bool.and_eq_true] at h
    obtain ⟨hn, ha, hb, _⟩ := h
    obtain ⟨ns, rfl, h1, h8, hnum⟩ := numbersOk_tup hn
    obtain ⟨ms, rfl, hm, _⟩ := pairsOk_tup ha
    obtain ⟨as, rfl, hs, _⟩ := pairsOk_tup hb
    have sp : ∀ {d : PyData}, pairOk ns.length d = true → smallPair d := fun {d} h => by
      unfold pairOk at h
      split at h
      · simp only [Bool.and_eq_true] at h
        obtain ⟨i, rfl, i0, i1⟩ := personOk_int h.1
        obtain ⟨j, rfl, j0, j1⟩ := personOk_int h.2.1
        exact ⟨i, j, rfl, i0, by omega, j0, by omega⟩
      · cases h
    refine ⟨ns, ms, as, rfl, h1, h8, fun d hd => ?_, hf.len _ rfl _ (by simp) ms rfl, hf.len _ rfl _ (by simp) as rfl, fun d hd => sp (hm d hd), fun d hd => sp (hs d hd)⟩
    have z := hnum d hd
    cases d with
    | none => exact .inl rfl
    | int i =>
      simp only [numOk, Bool.and_eq_true, decide_eq_true_eq] at z
      exact .inr ⟨i, rfl, z.1, by omega⟩
    | _ => cases z
  · cases h
/-- repr of a thing -/
theorem repr_fine {L : Nat} {y : PyData} (h : Fine L y) {Q : DV → Prop} (q : Q (.k (.str y.shown))) : oRepr [y] Q := by
  rcases h.wt with rfl | w
  · exact ⟨rfl, q⟩
  · have z : shOk y = true ∧ szD y ≤ 100000 ∧ y.depth ≤ 20 ∧ Q (.k (.str y.shown)) := ⟨w.sh, Nat.le_trans w.sz (by decide), Nat.le_trans w.dp (by decide), q⟩
    cases y with
    | dict kvs => exact absurd w.sh (by unfold shOk; exact Bool.false_ne_true)
    | _ => exact z
theorem repr_bool {b : Bool} {Q : DV → Prop} (q : Q (.k (.str (PyData.shown (.bool b))))) : oRepr [.bool b] Q := by
  cases b
  · exact ⟨rfl, by decide +kernel, by decide +kernel, q⟩
  · exact ⟨rfl, by decide +kernel, by decide +kernel, q⟩
variable (T : Txt K mg) (G_is_party : OkD P w K mg base "is_party" s_is_party ["thing"] 5 c_is_party) (G__law_below : OkP P w K mg base "_law_below" s__law_below ["pot", "bound"] 2 c_below) (G__law_pick : OkP P w K mg base "_law_pick" s__law_pick ["pot", "items"] 3 c_pick)
  (G__law_some_party : OkP P w K mg base "_law_some_party" s__law_some_party ["pot", "most"] 4 c_some_party) (G__law_is_party : OkD P w K mg base "_law_is_party" s__law_is_party ["thing"] 4 c_is_party) (G__law_spoilt : OkP P w K mg base "_law_spoilt" s__law_spoilt ["pot", "party"] 5 c_spoilt)
include T G_is_party G__law_below G__law_pick G__law_some_party G__law_is_party G__law_spoilt
theorem law_body {f : Addr} {cdv : Value} {A : Around} {outer : List Env} {s : Shared} {H : Hp} {E : XK} (hg : A.guards = some []) (hr : Room 5 (A.deeper (envOfC "law" (defScope s_law) s.heap.objs.size f cdv))) :
    ∃ t, DSs (bodyX P w K mg base ["script", "pot", "turn", "party", "first", "second", "odd", "some", "thing", "before"] "law" s_law f cdv A outer s H E) ((defBody s_law).drop 1) t ∧ t { nx := fun _ => False, rt := fun _ dv => dv = .k (.bool true) } (.un :: .pot :: List.replicate 8 .un) := by
  refine ⟨_, (ds_cons (ds_for PassesOwn.never rfl (di_range1 rfl T.m_range (da_cons de_int da_nil)) (dg_name (i := 2) sc_law.nd) (ds_cons (ds_set (i := 3) sc_law.nd (de_fnP 1 G__law_some_party hg (hr.mono (by decide)) (da_cons de_int da_nil))) (ds_cons (ds_set (i := 4) sc_law.nd (de_fnP 1 G__law_spoilt hg (hr.mono (by decide)) (da_cons (de_var 3) da_nil))) (ds_cons (ds_set (i := 5) sc_law.nd (de_if (dt_val (de_fn G__law_is_party hg (hr.mono (by decide)) (da_cons (de_var 4) da_nil))) (de_fnP 1 G__law_spoilt hg (hr.mono (by decide)) (da_cons (de_var 4) da_nil)) (de_var 4))) (ds_cons (ds_set (i := 6) sc_law.nd (de_fnP 1 G__law_pick hg (hr.mono (by decide)) (da_cons (de_lst (da_cons de_int (da_cons de_bl (da_cons (de_sub de_int de_int) (da_cons de_str (da_cons (de_pow de_int de_int) da_nil)))))) da_nil))) (ds_cons (ds_set (i := 7) sc_law.nd (de_lst (da_cons (de_tup (da_cons (de_mul (de_tup (da_cons (de_var 6) da_nil)) (de_callB cr_len cd_len rfl T.m_len (by decide +kernel) (da_cons (de_ix (de_var 3) de_int) da_nil))) (da_cons (de_ix (de_var 3) de_int) (da_cons (de_ix (de_var 3) de_int) da_nil)))) (da_cons (de_tup (da_cons (de_ix (de_var 3) de_int) (da_cons (de_callTy call_list_of cd_list rfl T.m_list (by decide +kernel) (da_cons (de_ix (de_var 3) de_int) da_nil)) (da_cons (de_callTy call_list_of cd_list rfl T.m_list (by decide +kernel) (da_cons (de_ix (de_var 3) de_int) da_nil)) da_nil)))) da_nil)))) (ds_cons (ds_appS (de_var 7) (de_tup (da_cons (de_ix (de_var 3) de_int) (da_cons (de_add (de_ix (de_var 3) de_int) (de_tup (da_cons de_non da_nil))) (da_cons (de_add (de_ix (de_var 3) de_int) (de_tup (da_cons (de_tup (da_cons de_int da_nil)) da_nil))) da_nil)))) fun _ _ a b => ps_expr (pe_bm PySem.F.plainAttrs_list PySem.F.slot_list_append PySem.F.type_list_append mt_append a (pa_cons b pa_nil))) (ds_one (ds_for PassesOwn.never rfl (di_seq (de_add (de_var 7) (de_lst (da_cons (de_var 3) (da_cons (de_var 4) (da_cons (de_var 5) (da_cons de_non (da_cons (de_tup da_nil) (da_cons (de_lst da_nil) (da_cons de_dict0 (da_cons de_str (da_cons de_int (da_cons (de_tup (da_cons (de_tup da_nil) (da_cons (de_tup da_nil) (da_cons (de_tup da_nil) da_nil)))) (da_cons (de_tup (da_cons (de_tup (da_cons de_non da_nil)) (da_cons (de_tup da_nil) (da_cons (de_tup da_nil) da_nil)))) da_nil)))))))))))))) (dg_name (i := 8) sc_law.nd) (ds_cons (ds_set (i := 9) sc_law.nd (de_callB (call_repr hg hr.units) cd_repr rfl T.m_repr (by decide +kernel) (da_cons (de_var 8) da_nil))) (ds_one (ds_if (dt_w (dw_or (dt_cmp cm_neS (de_callB (call_repr hg hr.units) cd_repr rfl T.m_repr (by decide +kernel) (da_cons (de_fn G_is_party hg (hr.mono (by decide)) (da_cons (de_var 8) da_nil)) da_nil)) (de_callB (call_repr hg hr.units) cd_repr rfl T.m_repr (by decide +kernel) (da_cons (de_fn G__law_is_party hg (hr.mono (by decide)) (da_cons (de_var 8) da_nil)) da_nil))) (dw_or1 (dt_cmp cm_neS (de_callB (call_repr hg hr.units) cd_repr rfl T.m_repr (by decide +kernel) (da_cons (de_var 8) da_nil)) (de_var 9))))) (ds_one (ds_ret de_bl)) ds_nil)))))))))))) (ds_one (ds_ret de_bl))), ?_⟩
  simp only [List.replicate]
  refine dSeq_cut (fun _ => True) (fun N hN => ?_) (fun ρ _ => rfl)
  simp only [e_dFor, e_diRange1, e_dCons, e_dNil, e_dC, OpdData, dt_k, dn_k, List.map_cons, List.map_nil]
  refine ⟨by decide, by decide, trivial, forW_ind (fun ds ρ => (∀ d ∈ ds, ∃ i : Int, d = .int i) ∧ ∃ a b c d e f g h : Sl, Free a ∧ Free b ∧ Free c ∧ Free d ∧ Free e ∧ Free f ∧ Free g ∧ Free h ∧ ρ = [.un, .pot, a, b, c, d, e, f, g, h]) ?_ (fun ρ _ => hN ρ trivial) ⟨fun d hd => ?_, _, _, _, _, _, _, _, _, Free.un, Free.un, Free.un, Free.un, Free.un, Free.un, Free.un, Free.un, rfl⟩⟩
  case refine_2 =>
    obtain ⟨i, rfl, _⟩ := rangeD_mem hd
    exact ⟨i, rfl⟩
  rintro d r ρ N2 ⟨hd, s2, s3, s4, s5, s6, s7, s8, s9, F2, F3, F4, F5, F6, F7, F8, F9, rfl⟩ hN2
  obtain ⟨t, rfl⟩ := hd d List.mem_cons_self
  have hr := fun d' h' => hd d' (List.mem_cons_of_mem _ h')
  refine ⟨ok10, ?_⟩
  dsimp only [List.set_cons_zero, List.set_cons_succ]
  refine dSeq_cut (fun ρ => ∃ ns ms as, Pty 64 ns ms as ∧ ρ = [.un, .pot, .sh (.int t), .sh (.tuple [.tuple ns, .tuple ms, .tuple as]), s4, s5, s6, s7, s8, s9]) (fun N hN => ?_) ?_
  · simp only [e_dRet, e_dOr, e_dAnd, e_dNot, e_dIf, e_dAndT, e_dOrT, e_dNotT, e_dChain, e_dIsi, e_dC, e_dOp, e_dUn, e_dTup, e_dLst, e_dCons, e_dNil, e_dCallB, e_dCall, e_dCallP, e_dSl, e_dSlS, e_oSlS, e_dNoPart, e_dLc, e_dLc2, e_dSet, e_dIfS, e_dFor, e_dAsg, e_dPar, e_dApp, e_dSetIx, e_dDrop, e_dSeq, e_dNext, e_diSeq, e_diRange1, e_diRange2, e_diZip, e_diEnum, e_gdName, e_gdTup, e_gdCons, e_gdNil, e_dYes, isT_int, OpdData, toDs, isT_bool, isT_tuple, isT_str, rd_var, rd_sh, rd_own, rd_al, rd_alo, dt_k, dt_r, dt_f, dn_k, dn_r, dn_f, dr_k, dr_r, dr_f, dd_k, dd_f, o_add_i, o_add_s, o_add_l, o_add_t, o_mul_i, o_mul_l, o_mul_t, o_ix_l, o_ix_t, o_sl_l, o_sl_t, o_rev_l, o_rev_t, o_list_l, o_list_t, o_tuple_l, o_tuple_t, o_len_l, o_len_t, o_int_i, o_abs_i, o_lt_i, o_lt_t, o_inl, o_int, o_ii, o_i0, tb_test, tb_b, pt_part, pt_i, st_k, st_f, st_r, List.map_cons, List.map_nil, List.getElem?_cons_zero, List.getElem?_cons_succ, List.set_cons_zero, List.set_cons_succ, c_some_party]
    exact ⟨by trivial, _, rfl, 8, rfl, by decide, by decide, fun ns ms as hp => ⟨ok10, hN _ ⟨ns, ms, as, hp, rfl⟩⟩⟩
  rintro ρ ⟨ns, ms, as, hp, rfl⟩
  refine dSeq_cut (fun ρ => ∃ y, Fine 72 y ∧ ρ = [.un, .pot, .sh (.int t), .sh (.tuple [.tuple ns, .tuple ms, .tuple as]), .sh y, s5, s6, s7, s8, s9]) (fun N hN => ?_) ?_
  · simp only [e_dRet, e_dOr, e_dAnd, e_dNot, e_dIf, e_dAndT, e_dOrT, e_dNotT, e_dChain, e_dIsi, e_dC, e_dOp, e_dUn, e_dTup, e_dLst, e_dCons, e_dNil, e_dCallB, e_dCall, e_dCallP, e_dSl, e_dSlS, e_oSlS, e_dNoPart, e_dLc, e_dLc2, e_dSet, e_dIfS, e_dFor, e_dAsg, e_dPar, e_dApp, e_dSetIx, e_dDrop, e_dSeq, e_dNext, e_diSeq, e_diRange1, e_diRange2, e_diZip, e_diEnum, e_gdName, e_gdTup, e_gdCons, e_gdNil, e_dYes, isT_int, OpdData, toDs, isT_bool, isT_tuple, isT_str, rd_var, rd_sh, rd_own, rd_al, rd_alo, dt_k, dt_r, dt_f, dn_k, dn_r, dn_f, dr_k, dr_r, dr_f, dd_k, dd_f, o_add_i, o_add_s, o_add_l, o_add_t, o_mul_i, o_mul_l, o_mul_t, o_ix_l, o_ix_t, o_sl_l, o_sl_t, o_rev_l, o_rev_t, o_list_l, o_list_t, o_tuple_l, o_tuple_t, o_len_l, o_len_t, o_int_i, o_abs_i, o_lt_i, o_lt_t, o_inl, o_int, o_ii, o_i0, tb_test, tb_b, pt_part, pt_i, st_k, st_f, st_r, List.map_cons, List.map_nil, List.getElem?_cons_zero, List.getElem?_cons_succ, List.set_cons_zero, List.set_cons_succ, c_spoilt]
    exact ⟨by trivial, _, rfl, 64, ns, ms, as, rfl, hp, by decide, by decide, fun y hy => ⟨ok10, hN _ ⟨y, hy, rfl⟩⟩⟩
  rintro ρ ⟨y, hy, rfl⟩
  refine dSeq_cut (fun ρ => ∃ z, Fine 73 z ∧ ρ = [.un, .pot, .sh (.int t), .sh (.tuple [.tuple ns, .tuple ms, .tuple as]), .sh y, .sh z, s6, s7, s8, s9]) (fun N hN => ?_) ?_
  · simp only [e_dRet, e_dOr, e_dAnd, e_dNot, e_dIf, e_dAndT, e_dOrT, e_dNotT, e_dChain, e_dIsi, e_dC, e_dOp, e_dUn, e_dTup, e_dLst, e_dCons, e_dNil, e_dCallB, e_dCall, e_dCallP, e_dSl, e_dSlS, e_oSlS, e_dNoPart, e_dLc, e_dLc2, e_dSet, e_dIfS, e_dFor, e_dAsg, e_dPar, e_dApp, e_dSetIx, e_dDrop, e_dSeq, e_dNext, e_diSeq, e_diRange1, e_diRange2, e_diZip, e_diEnum, e_gdName, e_gdTup, e_gdCons, e_gdNil, e_dYes, isT_int, OpdData, toDs, isT_bool, isT_tuple, isT_str, rd_var, rd_sh, rd_own, rd_al, rd_alo, dt_k, dt_r, dt_f, dn_k, dn_r, dn_f, dr_k, dr_r, dr_f, dd_k, dd_f, o_add_i, o_add_s, o_add_l, o_add_t, o_mul_i, o_mul_l, o_mul_t, o_ix_l, o_ix_t, o_sl_l, o_sl_t, o_rev_l, o_rev_t, o_list_l, o_list_t, o_tuple_l, o_tuple_t, o_len_l, o_len_t, o_int_i, o_abs_i, o_lt_i, o_lt_t, o_inl, o_int, o_ii, o_i0, tb_test, tb_b, pt_part, pt_i, st_k, st_f, st_r, List.map_cons, List.map_nil, List.getElem?_cons_zero, List.getElem?_cons_succ, List.set_cons_zero, List.set_cons_succ, c_spoilt, c_is_party]
    refine ⟨_, rfl, y, rfl, hy.small (by decide), ?_⟩
    split
    · rename_i h
      obtain ⟨ns', ms', as', rfl, hp'⟩ := pty_of h hy
      exact ⟨by trivial, _, rfl, 72, ns', ms', as', rfl, hp', by decide, by decide, fun z hz => ⟨ok10, hN _ ⟨z, hz, rfl⟩⟩⟩
    · exact ⟨ok10, hN _ ⟨y, hy.mono (by decide), rfl⟩⟩
  rintro ρ ⟨z, hz, rfl⟩
  refine dSeq_cut (fun ρ => ∃ o, Wt 300 2 o ∧ ρ = [.un, .pot, .sh (.int t), .sh (.tuple [.tuple ns, .tuple ms, .tuple as]), .sh y, .sh z, .sh o, s7, s8, s9]) (fun N hN => ?_) ?_
  · simp only [e_dRet, e_dOr, e_dAnd, e_dNot, e_dIf, e_dAndT, e_dOrT, e_dNotT, e_dChain, e_dIsi, e_dC, e_dOp, e_dUn, e_dTup, e_dLst, e_dCons, e_dNil, e_dCallB, e_dCall, e_dCallP, e_dSl, e_dSlS, e_oSlS, e_dNoPart, e_dLc, e_dLc2, e_dSet, e_dIfS, e_dFor, e_dAsg, e_dPar, e_dApp, e_dSetIx, e_dDrop, e_dSeq, e_dNext, e_diSeq, e_diRange1, e_diRange2, e_diZip, e_diEnum, e_gdName, e_gdTup, e_gdCons, e_gdNil, e_dYes, isT_int, OpdData, toDs, isT_bool, isT_tuple, isT_str, rd_var, rd_sh, rd_own, rd_al, rd_alo, dt_k, dt_r, dt_f, dn_k, dn_r, dn_f, dr_k, dr_r, dr_f, dd_k, dd_f, o_add_i, o_add_s, o_add_l, o_add_t, o_mul_i, o_mul_l, o_mul_t, o_ix_l, o_ix_t, o_sl_l, o_sl_t, o_rev_l, o_rev_t, o_list_l, o_list_t, o_tuple_l, o_tuple_t, o_len_l, o_len_t, o_int_i, o_abs_i, o_lt_i, o_lt_t, o_inl, o_int, o_ii, o_i0, tb_test, tb_b, pt_part, pt_i, st_k, st_f, st_r, List.map_cons, List.map_nil, List.getElem?_cons_zero, List.getElem?_cons_succ, List.set_cons_zero, List.set_cons_succ, c_pick]
    refine ⟨by trivial, ⟨by decide, by decide, by decide⟩, _, rfl, (by decide : 5 ≤ 100000), _, rfl, _, rfl, (by decide : 0 < 5), (by decide : 5 ≤ 1000), fun d hd => ⟨ok10, hN _ ⟨d, ?_, rfl⟩⟩⟩
    simp only [List.mem_cons, List.not_mem_nil, or_false] at hd
    rcases hd with rfl | rfl | rfl | rfl | rfl
    all_goals exact ⟨by decide +kernel, by decide +kernel, by decide +kernel⟩
  rintro ρ ⟨o, ho, rfl⟩
  refine dSeq_cut (fun ρ => ∃ ls, (∀ x ∈ ls, Fine 73 x) ∧ ls.length = 2 ∧ ρ = [.un, .pot, .sh (.int t), .sh (.tuple [.tuple ns, .tuple ms, .tuple as]), .sh y, .sh z, .sh o, .own ls, s8, s9]) (fun N hN => ?_) ?_
  · have hn1 := hp.n1
    have hn8 := hp.n8
    have hrow := hp.rows (by decide) (by decide)
    simp only [e_dRet, e_dOr, e_dAnd, e_dNot, e_dIf, e_dAndT, e_dOrT, e_dNotT, e_dChain, e_dIsi, e_dC, e_dOp, e_dUn, e_dTup, e_dLst, e_dCons, e_dNil, e_dCallB, e_dCall, e_dCallP, e_dSl, e_dSlS, e_oSlS, e_dNoPart, e_dLc, e_dLc2, e_dSet, e_dIfS, e_dFor, e_dAsg, e_dPar, e_dApp, e_dSetIx, e_dDrop, e_dSeq, e_dNext, e_diSeq, e_diRange1, e_diRange2, e_diZip, e_diEnum, e_gdName, e_gdTup, e_gdCons, e_gdNil, e_dYes, isT_int, OpdData, toDs, isT_bool, isT_tuple, isT_str, rd_var, rd_sh, rd_own, rd_al, rd_alo, dt_k, dt_r, dt_f, dn_k, dn_r, dn_f, dr_k, dr_r, dr_f, dd_k, dd_f, o_add_i, o_add_s, o_add_l, o_add_t, o_mul_i, o_mul_l, o_mul_t, o_ix_l, o_ix_t, o_sl_l, o_sl_t, o_rev_l, o_rev_t, o_list_l, o_list_t, o_tuple_l, o_tuple_t, o_len_l, o_len_t, o_int_i, o_abs_i, o_lt_i, o_lt_t, o_inl, o_int, o_ii, o_i0, tb_test, tb_b, pt_part, pt_i, st_k, st_f, st_r, List.map_cons, List.map_nil, List.getElem?_cons_zero, List.getElem?_cons_succ, List.set_cons_zero, List.set_cons_succ]
    refine ⟨_, rfl, (by decide : 1 ≤ 100000), .tuple ns, rfl, ?_⟩
    simp only [e_dRet, e_dOr, e_dAnd, e_dNot, e_dIf, e_dAndT, e_dOrT, e_dNotT, e_dChain, e_dIsi, e_dC, e_dOp, e_dUn, e_dTup, e_dLst, e_dCons, e_dNil, e_dCallB, e_dCall, e_dCallP, e_dSl, e_dSlS, e_oSlS, e_dNoPart, e_dLc, e_dLc2, e_dSet, e_dIfS, e_dFor, e_dAsg, e_dPar, e_dApp, e_dSetIx, e_dDrop, e_dSeq, e_dNext, e_diSeq, e_diRange1, e_diRange2, e_diZip, e_diEnum, e_gdName, e_gdTup, e_gdCons, e_gdNil, e_dYes, isT_int, OpdData, toDs, isT_bool, isT_tuple, isT_str, rd_var, rd_sh, rd_own, rd_al, rd_alo, dt_k, dt_r, dt_f, dn_k, dn_r, dn_f, dr_k, dr_r, dr_f, dd_k, dd_f, o_add_i, o_add_s, o_add_l, o_add_t, o_mul_i, o_mul_l, o_mul_t, o_ix_l, o_ix_t, o_sl_l, o_sl_t, o_rev_l, o_rev_t, o_list_l, o_list_t, o_tuple_l, o_tuple_t, o_len_l, o_len_t, o_int_i, o_abs_i, o_lt_i, o_lt_t, o_inl, o_int, o_ii, o_i0, tb_test, tb_b, pt_part, pt_i, st_k, st_f, st_r, List.map_cons, List.map_nil, List.getElem?_cons_zero, List.getElem?_cons_succ, List.set_cons_zero, List.set_cons_succ]
    refine ⟨List.cons_ne_nil _ _, by omega, by omega, (by decide : 1 ≤ 1000), .tuple ms, rfl, .tuple as, rfl, _, rfl, (by decide : 3 ≤ 100000), .tuple ns, rfl, .tuple ms, rfl, ?_⟩
    simp only [e_dRet, e_dOr, e_dAnd, e_dNot, e_dIf, e_dAndT, e_dOrT, e_dNotT, e_dChain, e_dIsi, e_dC, e_dOp, e_dUn, e_dTup, e_dLst, e_dCons, e_dNil, e_dCallB, e_dCall, e_dCallP, e_dSl, e_dSlS, e_oSlS, e_dNoPart, e_dLc, e_dLc2, e_dSet, e_dIfS, e_dFor, e_dAsg, e_dPar, e_dApp, e_dSetIx, e_dDrop, e_dSeq, e_dNext, e_diSeq, e_diRange1, e_diRange2, e_diZip, e_diEnum, e_gdName, e_gdTup, e_gdCons, e_gdNil, e_dYes, isT_int, OpdData, toDs, isT_bool, isT_tuple, isT_str, rd_var, rd_sh, rd_own, rd_al, rd_alo, dt_k, dt_r, dt_f, dn_k, dn_r, dn_f, dr_k, dr_r, dr_f, dd_k, dd_f, o_add_i, o_add_s, o_add_l, o_add_t, o_mul_i, o_mul_l, o_mul_t, o_ix_l, o_ix_t, o_sl_l, o_sl_t, o_rev_l, o_rev_t, o_list_l, o_list_t, o_tuple_l, o_tuple_t, o_len_l, o_len_t, o_int_i, o_abs_i, o_lt_i, o_lt_t, o_inl, o_int, o_ii, o_i0, tb_test, tb_b, pt_part, pt_i, st_k, st_f, st_r, List.map_cons, List.map_nil, List.getElem?_cons_zero, List.getElem?_cons_succ, List.set_cons_zero, List.set_cons_succ]
    refine ⟨.tuple as, rfl, ?_⟩
    simp only [e_dRet, e_dOr, e_dAnd, e_dNot, e_dIf, e_dAndT, e_dOrT, e_dNotT, e_dChain, e_dIsi, e_dC, e_dOp, e_dUn, e_dTup, e_dLst, e_dCons, e_dNil, e_dCallB, e_dCall, e_dCallP, e_dSl, e_dSlS, e_oSlS, e_dNoPart, e_dLc, e_dLc2, e_dSet, e_dIfS, e_dFor, e_dAsg, e_dPar, e_dApp, e_dSetIx, e_dDrop, e_dSeq, e_dNext, e_diSeq, e_diRange1, e_diRange2, e_diZip, e_diEnum, e_gdName, e_gdTup, e_gdCons, e_gdNil, e_dYes, isT_int, OpdData, toDs, isT_bool, isT_tuple, isT_str, rd_var, rd_sh, rd_own, rd_al, rd_alo, dt_k, dt_r, dt_f, dn_k, dn_r, dn_f, dr_k, dr_r, dr_f, dd_k, dd_f, o_add_i, o_add_s, o_add_l, o_add_t, o_mul_i, o_mul_l, o_mul_t, o_ix_l, o_ix_t, o_sl_l, o_sl_t, o_rev_l, o_rev_t, o_list_l, o_list_t, o_tuple_l, o_tuple_t, o_len_l, o_len_t, o_int_i, o_abs_i, o_lt_i, o_lt_t, o_inl, o_int, o_ii, o_i0, tb_test, tb_b, pt_part, pt_i, st_k, st_f, st_r, List.map_cons, List.map_nil, List.getElem?_cons_zero, List.getElem?_cons_succ, List.set_cons_zero, List.set_cons_succ]
    refine ⟨_, rfl, (by decide : 3 ≤ 100000), _, rfl, (by decide : 2 ≤ 100000), ok10, hN _ ⟨_, fun x hx => ?_, rfl, rfl⟩⟩
    simp only [List.mem_cons, List.not_mem_nil, or_false] at hx
    rcases hx with rfl | rfl
    · refine fine_tup (fun e he => ?_) (by decide : 3 ≤ 4)
      simp only [List.mem_cons, List.not_mem_nil, or_false] at he
      rcases he with rfl | rfl | rfl
      · refine row_tup (fun e he => ?_) ?_ (by decide)
        · obtain ⟨l, hl, he⟩ := List.mem_flatten.mp he
          rw [List.eq_of_mem_replicate hl] at he
          rw [List.mem_singleton.mp he]
          exact ho
        · rw [PyProof.Rows.lm_len_rep_flat, List.length_singleton]
          omega
      · exact hrow.2.1.mono (by decide)
      · exact hrow.2.2.mono (by decide)
    · refine fine_tup (fun e he => ?_) (by decide : 3 ≤ 4)
      simp only [List.mem_cons, List.not_mem_nil, or_false] at he
      rcases he with rfl | rfl | rfl
      · exact hrow.1.mono (by decide)
      · exact row_lst (fun d hd => (wt_small (hp.mp d hd)).mono) (Nat.le_trans hp.ml (by decide)) (by decide)
      · exact row_lst (fun d hd => (wt_small (hp.ap d hd)).mono) (Nat.le_trans hp.al (by decide)) (by decide)
  rintro ρ ⟨ls, hls, hll, rfl⟩
  refine dSeq_cut (fun ρ => ∃ ls, (∀ x ∈ ls, Fine 73 x) ∧ ls.length = 3 ∧ ρ = [.un, .pot, .sh (.int t), .sh (.tuple [.tuple ns, .tuple ms, .tuple as]), .sh y, .sh z, .sh o, .own ls, s8, s9]) (fun N hN => ?_) ?_
  · have hrow := hp.rows (by decide) (by decide)
    have hml := hp.ml
    have hal := hp.al
    have w0 : Wt 300 2 (.tuple [.int 0]) := ⟨by decide +kernel, by decide +kernel, by decide +kernel⟩
    have wN : Wt 300 2 .none := ⟨by decide +kernel, by decide +kernel, by decide +kernel⟩
    simp only [e_dRet, e_dOr, e_dAnd, e_dNot, e_dIf, e_dAndT, e_dOrT, e_dNotT, e_dChain, e_dIsi, e_dC, e_dOp, e_dUn, e_dTup, e_dLst, e_dCons, e_dNil, e_dCallB, e_dCall, e_dCallP, e_dSl, e_dSlS, e_oSlS, e_dNoPart, e_dLc, e_dLc2, e_dSet, e_dIfS, e_dFor, e_dAsg, e_dPar, e_dApp, e_dSetIx, e_dDrop, e_dSeq, e_dNext, e_diSeq, e_diRange1, e_diRange2, e_diZip, e_diEnum, e_gdName, e_gdTup, e_gdCons, e_gdNil, e_dYes, isT_int, OpdData, toDs, isT_bool, isT_tuple, isT_str, rd_var, rd_sh, rd_own, rd_al, rd_alo, dt_k, dt_r, dt_f, dn_k, dn_r, dn_f, dr_k, dr_r, dr_f, dd_k, dd_f, o_add_i, o_add_s, o_add_l, o_add_t, o_mul_i, o_mul_l, o_mul_t, o_ix_l, o_ix_t, o_sl_l, o_sl_t, o_rev_l, o_rev_t, o_list_l, o_list_t, o_tuple_l, o_tuple_t, o_len_l, o_len_t, o_int_i, o_abs_i, o_lt_i, o_lt_t, o_inl, o_int, o_ii, o_i0, tb_test, tb_b, pt_part, pt_i, st_k, st_f, st_r, List.map_cons, List.map_nil, List.getElem?_cons_zero, List.getElem?_cons_succ, List.set_cons_zero, List.set_cons_succ]
    refine ⟨.tuple ns, rfl, .tuple ms, rfl, _, rfl, (by decide : 1 ≤ 100000), ?_⟩
    simp only [e_dRet, e_dOr, e_dAnd, e_dNot, e_dIf, e_dAndT, e_dOrT, e_dNotT, e_dChain, e_dIsi, e_dC, e_dOp, e_dUn, e_dTup, e_dLst, e_dCons, e_dNil, e_dCallB, e_dCall, e_dCallP, e_dSl, e_dSlS, e_oSlS, e_dNoPart, e_dLc, e_dLc2, e_dSet, e_dIfS, e_dFor, e_dAsg, e_dPar, e_dApp, e_dSetIx, e_dDrop, e_dSeq, e_dNext, e_diSeq, e_diRange1, e_diRange2, e_diZip, e_diEnum, e_gdName, e_gdTup, e_gdCons, e_gdNil, e_dYes, isT_int, OpdData, toDs, isT_bool, isT_tuple, isT_str, rd_var, rd_sh, rd_own, rd_al, rd_alo, dt_k, dt_r, dt_f, dn_k, dn_r, dn_f, dr_k, dr_r, dr_f, dd_k, dd_f, o_add_i, o_add_s, o_add_l, o_add_t, o_mul_i, o_mul_l, o_mul_t, o_ix_l, o_ix_t, o_sl_l, o_sl_t, o_rev_l, o_rev_t, o_list_l, o_list_t, o_tuple_l, o_tuple_t, o_len_l, o_len_t, o_int_i, o_abs_i, o_lt_i, o_lt_t, o_inl, o_int, o_ii, o_i0, tb_test, tb_b, pt_part, pt_i, st_k, st_f, st_r, List.map_cons, List.map_nil, List.getElem?_cons_zero, List.getElem?_cons_succ, List.set_cons_zero, List.set_cons_succ]
    refine ⟨by rw [List.length_singleton]; omega, .tuple as, rfl, _, rfl, (by decide : 1 ≤ 100000), _, rfl, (by decide : 1 ≤ 100000), ?_⟩
    simp only [e_dRet, e_dOr, e_dAnd, e_dNot, e_dIf, e_dAndT, e_dOrT, e_dNotT, e_dChain, e_dIsi, e_dC, e_dOp, e_dUn, e_dTup, e_dLst, e_dCons, e_dNil, e_dCallB, e_dCall, e_dCallP, e_dSl, e_dSlS, e_oSlS, e_dNoPart, e_dLc, e_dLc2, e_dSet, e_dIfS, e_dFor, e_dAsg, e_dPar, e_dApp, e_dSetIx, e_dDrop, e_dSeq, e_dNext, e_diSeq, e_diRange1, e_diRange2, e_diZip, e_diEnum, e_gdName, e_gdTup, e_gdCons, e_gdNil, e_dYes, isT_int, OpdData, toDs, isT_bool, isT_tuple, isT_str, rd_var, rd_sh, rd_own, rd_al, rd_alo, dt_k, dt_r, dt_f, dn_k, dn_r, dn_f, dr_k, dr_r, dr_f, dd_k, dd_f, o_add_i, o_add_s, o_add_l, o_add_t, o_mul_i, o_mul_l, o_mul_t, o_ix_l, o_ix_t, o_sl_l, o_sl_t, o_rev_l, o_rev_t, o_list_l, o_list_t, o_tuple_l, o_tuple_t, o_len_l, o_len_t, o_int_i, o_abs_i, o_lt_i, o_lt_t, o_inl, o_int, o_ii, o_i0, tb_test, tb_b, pt_part, pt_i, st_k, st_f, st_r, List.map_cons, List.map_nil, List.getElem?_cons_zero, List.getElem?_cons_succ, List.set_cons_zero, List.set_cons_succ]
    refine ⟨by rw [List.length_singleton]; omega, _, rfl, (by decide : 3 ≤ 100000), _, rfl, by omega, hN _ ⟨_, fun x hx => ?_, by rw [List.length_append, hll]; rfl, rfl⟩⟩
    rcases List.mem_append.mp hx with hx | hx
    · exact hls x hx
    · rw [List.mem_singleton.mp hx]
      refine fine_tup (fun e he => ?_) (by decide : 3 ≤ 4)
      simp only [List.mem_cons, List.not_mem_nil, or_false] at he
      rcases he with rfl | rfl | rfl
      · exact hrow.1.mono (by decide)
      · refine row_tup (fun d hd => ?_) (by rw [List.length_append, List.length_singleton]; omega) (by decide)
        rcases List.mem_append.mp hd with hd | hd
        · exact (wt_small (hp.mp d hd)).mono
        · rw [List.mem_singleton.mp hd]; exact wN
      · refine row_tup (fun d hd => ?_) (by rw [List.length_append, List.length_singleton]; omega) (by decide)
        rcases List.mem_append.mp hd with hd | hd
        · exact (wt_small (hp.ap d hd)).mono
        · rw [List.mem_singleton.mp hd]; exact w0
  rintro ρ ⟨ls, hls, hll, rfl⟩
  have hrow := hp.rows (by decide) (by decide)
  have fP : Fine 73 (.tuple [.tuple ns, .tuple ms, .tuple as]) := fine_tup (fun e he => by
      simp only [List.mem_cons, List.not_mem_nil, or_false] at he
      rcases he with rfl | rfl | rfl
      · exact hrow.1.mono (by decide)
      · exact hrow.2.1.mono (by decide)
      · exact hrow.2.2.mono (by decide)) (by decide : 3 ≤ 4)
  have loop : ∀ ts : List PyData, (∀ x ∈ ts, Fine 73 x) → forW (gdName 8)
    (dSeq (dSet 9 (dCallB oRepr (dCons (dVar 8) dNil)))
      (dIfS
        (dOrT
          (dTest
            (dOp oNeS (dCallB oRepr (dCons (dCall c_is_party (dCons (dVar 8) dNil)) dNil))
              (dCallB oRepr (dCons (dCall c_is_party (dCons (dVar 8) dNil)) dNil))))
          (dTest (dOp oNeS (dCallB oRepr (dCons (dVar 8) dNil)) (dVar 9))))
        (dRet (dC (PyData.bool false))) dNext))
    { nx := N2, rt := fun x dv => dv = DV.k (PyData.bool true), bk := N, ct := N2 } ts
    [Sl.un, Sl.pot, Sl.sh (PyData.int t), Sl.sh (PyData.tuple [PyData.tuple ns, PyData.tuple ms, PyData.tuple as]),
      Sl.sh y, Sl.sh z, Sl.sh o, Sl.own ls, s8, s9] := fun ts hts => by
    refine forW_ind (fun rem ρ => (∀ x ∈ rem, Fine 73 x) ∧ ∃ g h, Free g ∧ Free h ∧ ρ = [.un, .pot, .sh (.int t), .sh (.tuple [.tuple ns, .tuple ms, .tuple as]), .sh y, .sh z, .sh o, .own ls, g, h]) ?_ ?_ ⟨hts, _, _, F8, F9, rfl⟩
    · rintro d r ρ N3 ⟨hd, g, h, Fg, Fh, rfl⟩ hN3
      have fd := hd d List.mem_cons_self
      have hr := fun d' h' => hd d' (List.mem_cons_of_mem _ h')
      refine ⟨ok10, ?_⟩
      dsimp only [List.set_cons_zero, List.set_cons_succ]
      refine dSeq_cut (fun ρ => ρ = [.un, .pot, .sh (.int t), .sh (.tuple [.tuple ns, .tuple ms, .tuple as]), .sh y, .sh z, .sh o, .own ls, .sh d, .sh (.str d.shown)]) (fun N hN => ?_) ?_
      · simp only [e_dRet, e_dOr, e_dAnd, e_dNot, e_dIf, e_dAndT, e_dOrT, e_dNotT, e_dChain, e_dIsi, e_dC, e_dOp, e_dUn, e_dTup, e_dLst, e_dCons, e_dNil, e_dCallB, e_dCall, e_dCallP, e_dSl, e_dSlS, e_oSlS, e_dNoPart, e_dLc, e_dLc2, e_dSet, e_dIfS, e_dFor, e_dAsg, e_dPar, e_dApp, e_dSetIx, e_dDrop, e_dSeq, e_dNext, e_diSeq, e_diRange1, e_diRange2, e_diZip, e_diEnum, e_gdName, e_gdTup, e_gdCons, e_gdNil, e_dYes, isT_int, OpdData, toDs, isT_bool, isT_tuple, isT_str, rd_var, rd_sh, rd_own, rd_al, rd_alo, dt_k, dt_r, dt_f, dn_k, dn_r, dn_f, dr_k, dr_r, dr_f, dd_k, dd_f, o_add_i, o_add_s, o_add_l, o_add_t, o_mul_i, o_mul_l, o_mul_t, o_ix_l, o_ix_t, o_sl_l, o_sl_t, o_rev_l, o_rev_t, o_list_l, o_list_t, o_tuple_l, o_tuple_t, o_len_l, o_len_t, o_int_i, o_abs_i, o_lt_i, o_lt_t, o_inl, o_int, o_ii, o_i0, tb_test, tb_b, pt_part, pt_i, st_k, st_f, st_r, List.map_cons, List.map_nil, List.getElem?_cons_zero, List.getElem?_cons_succ, List.set_cons_zero, List.set_cons_succ]
        exact repr_fine fd ⟨ok10, hN _ rfl⟩
      rintro ρ rfl
      simp only [e_dRet, e_dOr, e_dAnd, e_dNot, e_dIf, e_dAndT, e_dOrT, e_dNotT, e_dChain, e_dIsi, e_dC, e_dOp, e_dUn, e_dTup, e_dLst, e_dCons, e_dNil, e_dCallB, e_dCall, e_dCallP, e_dSl, e_dSlS, e_oSlS, e_dNoPart, e_dLc, e_dLc2, e_dSet, e_dIfS, e_dFor, e_dAsg, e_dPar, e_dApp, e_dSetIx, e_dDrop, e_dSeq, e_dNext, e_diSeq, e_diRange1, e_diRange2, e_diZip, e_diEnum, e_gdName, e_gdTup, e_gdCons, e_gdNil, e_dYes, isT_int, OpdData, toDs, isT_bool, isT_tuple, isT_str, rd_var, rd_sh, rd_own, rd_al, rd_alo, dt_k, dt_r, dt_f, dn_k, dn_r, dn_f, dr_k, dr_r, dr_f, dd_k, dd_f, o_add_i, o_add_s, o_add_l, o_add_t, o_mul_i, o_mul_l, o_mul_t, o_ix_l, o_ix_t, o_sl_l, o_sl_t, o_rev_l, o_rev_t, o_list_l, o_list_t, o_tuple_l, o_tuple_t, o_len_l, o_len_t, o_int_i, o_abs_i, o_lt_i, o_lt_t, o_inl, o_int, o_ii, o_i0, tb_test, tb_b, pt_part, pt_i, st_k, st_f, st_r, List.map_cons, List.map_nil, List.getElem?_cons_zero, List.getElem?_cons_succ, List.set_cons_zero, List.set_cons_succ, c_is_party]
      refine ⟨_, rfl, d, rfl, fd.small (by decide), ?_⟩
      refine repr_bool ⟨_, rfl, d, rfl, fd.small (by decide), ?_⟩
      refine repr_bool ?_
      simp only [oNeS, e_dRet, e_dOr, e_dAnd, e_dNot, e_dIf, e_dAndT, e_dOrT, e_dNotT, e_dChain, e_dIsi, e_dC, e_dOp, e_dUn, e_dTup, e_dLst, e_dCons, e_dNil, e_dCallB, e_dCall, e_dCallP, e_dSl, e_dSlS, e_oSlS, e_dNoPart, e_dLc, e_dLc2, e_dSet, e_dIfS, e_dFor, e_dAsg, e_dPar, e_dApp, e_dSetIx, e_dDrop, e_dSeq, e_dNext, e_diSeq, e_diRange1, e_diRange2, e_diZip, e_diEnum, e_gdName, e_gdTup, e_gdCons, e_gdNil, e_dYes, isT_int, OpdData, toDs, isT_bool, isT_tuple, isT_str, rd_var, rd_sh, rd_own, rd_al, rd_alo, dt_k, dt_r, dt_f, dn_k, dn_r, dn_f, dr_k, dr_r, dr_f, dd_k, dd_f, o_add_i, o_add_s, o_add_l, o_add_t, o_mul_i, o_mul_l, o_mul_t, o_ix_l, o_ix_t, o_sl_l, o_sl_t, o_rev_l, o_rev_t, o_list_l, o_list_t, o_tuple_l, o_tuple_t, o_len_l, o_len_t, o_int_i, o_abs_i, o_lt_i, o_lt_t, o_inl, o_int, o_ii, o_i0, tb_test, tb_b, pt_part, pt_i, st_k, st_f, st_r, List.map_cons, List.map_nil, List.getElem?_cons_zero, List.getElem?_cons_succ, List.set_cons_zero, List.set_cons_succ]
      rw [if_neg (by simp)]
      refine repr_fine fd ?_
      simp only [e_dRet, e_dOr, e_dAnd, e_dNot, e_dIf, e_dAndT, e_dOrT, e_dNotT, e_dChain, e_dIsi, e_dC, e_dOp, e_dUn, e_dTup, e_dLst, e_dCons, e_dNil, e_dCallB, e_dCall, e_dCallP, e_dSl, e_dSlS, e_oSlS, e_dNoPart, e_dLc, e_dLc2, e_dSet, e_dIfS, e_dFor, e_dAsg, e_dPar, e_dApp, e_dSetIx, e_dDrop, e_dSeq, e_dNext, e_diSeq, e_diRange1, e_diRange2, e_diZip, e_diEnum, e_gdName, e_gdTup, e_gdCons, e_gdNil, e_dYes, isT_int, OpdData, toDs, isT_bool, isT_tuple, isT_str, rd_var, rd_sh, rd_own, rd_al, rd_alo, dt_k, dt_r, dt_f, dn_k, dn_r, dn_f, dr_k, dr_r, dr_f, dd_k, dd_f, o_add_i, o_add_s, o_add_l, o_add_t, o_mul_i, o_mul_l, o_mul_t, o_ix_l, o_ix_t, o_sl_l, o_sl_t, o_rev_l, o_rev_t, o_list_l, o_list_t, o_tuple_l, o_tuple_t, o_len_l, o_len_t, o_int_i, o_abs_i, o_lt_i, o_lt_t, o_inl, o_int, o_ii, o_i0, tb_test, tb_b, pt_part, pt_i, st_k, st_f, st_r, List.map_cons, List.map_nil, List.getElem?_cons_zero, List.getElem?_cons_succ, List.set_cons_zero, List.set_cons_succ]
      rw [if_neg (by simp)]
      exact hN3 _ ⟨hr, _, _, Free.sh, Free.sh, rfl⟩
    · rintro ρ ⟨_, g, h, Fg, Fh, rfl⟩
      exact hN2 _ ⟨hr, _, _, _, _, _, _, _, _, Free.sh, Free.sh, Free.sh, Free.sh, Free.sh, Free.own, Fg, Fh, rfl⟩
  simp only [e_dFor, e_diSeq, e_dOp, rd_var, rd_own, rd_sh, e_dLst, e_dTup, e_dCons, e_dNil, e_dC, toDs, dt_k, dt_r, dt_f, dn_k, dn_f, o_add_l, List.getElem?_cons_zero, List.getElem?_cons_succ]
  refine ⟨[], rfl, by decide, [], rfl, by decide, [], rfl, by decide, [], rfl, by decide, [], rfl, by decide, _, rfl, (by decide : 3 ≤ 100000), _, rfl, (by decide : 1 ≤ 100000), [], rfl, by decide, [], rfl, by decide, _, rfl, (by decide : 3 ≤ 100000), _, rfl, (by decide : 11 ≤ 100000), ?_⟩
  simp only [o_add_l, seqOwn]
  refine ⟨by rw [hll]; exact Nat.le_of_ble_eq_true rfl, by trivial, loop _ fun x hx => ?_⟩
  rcases List.mem_append.mp hx with hx | hx
  · exact hls x hx
  · have e0 : Row 73 (.tuple []) := row_tup (ds := []) (fun d h => nomatch h) (Nat.zero_le _) (by decide)
    simp only [List.mem_cons, List.not_mem_nil, or_false] at hx
    rcases hx with rfl | rfl | rfl | rfl | rfl | rfl | rfl | rfl | rfl | rfl | rfl
    · exact fP
    · exact hy.mono (by decide)
    · exact hz
    · exact ⟨.inr ⟨rfl, by decide +kernel, by decide +kernel⟩, fun ds e => by cases e⟩
    · exact fine_tup (ds := []) (fun d h => nomatch h) (by decide)
    · exact fine_lst (ds := []) (fun d h => nomatch h) (by decide)
    · exact ⟨.inl rfl, fun ds e => by cases e⟩
    · exact ⟨.inr ⟨by decide +kernel, by decide +kernel, by decide +kernel⟩, fun ds e => by cases e⟩
    · exact ⟨.inr ⟨by decide +kernel, by decide +kernel, by decide +kernel⟩, fun ds e => by cases e⟩
    · refine fine_tup (fun e he => ?_) (by decide : 3 ≤ 4)
      simp only [List.mem_cons, List.not_mem_nil, or_false] at he
      rcases he with rfl | rfl | rfl <;> exact e0
    · refine fine_tup (fun e he => ?_) (by decide : 3 ≤ 4)
      simp only [List.mem_cons, List.not_mem_nil, or_false] at he
      rcases he with rfl | rfl | rfl
      · exact row_tup (ds := [.none]) (fun d h => by rw [List.mem_singleton.mp h]; exact ⟨by decide +kernel, by decide +kernel, by decide +kernel⟩) (by decide) (by decide)
      · exact e0
      · exact e0
end
end K02

namespace K02
open PySem PySem.Spec PyProof.Rows L2 DL
theorem law_ok {P : Program} {w : World} {K : PySem.W.Frag} {mg : Str → Option Value} {base : Heap} {f : Addr} {fd : FuncData} (T : Txt K mg) (F : Fun K "law" "law" s_law f fd) : FnG P w K mg base CX0 6 f fd ["script"] (spLaw K) := by
  have G_is_integer := ok_is_integer (P := P) (w := w) (base := base) T
  have G_can_be_told := ok_can_be_told T G_is_integer
  have G_are_numbers := ok_are_numbers T G_can_be_told
  have G_is_person := ok_is_person T G_is_integer
  have G_is_pair := ok_is_pair T G_is_person
  have G_are_pairs := ok_are_pairs T G_is_pair
  have G_is_party := ok_is_party T G_are_numbers G_are_pairs
  have G__law_kneaded := ok_kneaded (P := P) (w := w) (base := base) T
  have G__law_pot_of := ok_pot_of (P := P) (w := w) (base := base) T
  have G__law_below := ok_below T G__law_kneaded
  have G__law_pick := ok_pick T G__law_below
  have G__law_pairs := ok_pairs (P := P) (w := w) (base := base) T
  have G__law_some_party := ok_some_party T G__law_below G__law_pick G__law_pairs
  have G__law_number := ok_number (P := P) (w := w) (base := base) T
  have G__law_is_pair := ok_is_pairL T G__law_number
  have G__law_is_row := ok_is_rowL T G__law_is_pair
  have G__law_is_party := ok_is_partyL T G__law_number G__law_is_row
  have G__law_muddled := ok_muddled T G__law_below G__law_pick
  have G__law_spoilt := ok_spoilt T G__law_below G__law_pick G__law_muddled
  exact okLaw (p1 := ⟨0, 0, 0, 0⟩) (p2 := ⟨0, 0, 0, 0⟩) (p3 := ⟨0, 0, 0, 0⟩) (pos := ⟨0, 0, 0, 0⟩) (k := 5) (N := ["script", "pot", "turn", "party", "first", "second", "odd", "some", "thing", "before"]) F sc_law rfl rfl G__law_pot_of (by decide) (fun cdv A outer s H E hg hr => (ds_set (i := 1) sc_law.nd (de_fn G__law_pot_of hg (hr.mono (by decide)) (da_cons (de_var 0) da_nil))))
    fun cdv A outer s H E hg hr => law_body T G_is_party G__law_below G__law_pick G__law_some_party G__law_is_party G__law_spoilt hg hr
/-! ### what the top has written -/
theorem all_mk {l : PySem.W.OpenLaw} {w : World} {K : PySem.W.Frag} {h : Heap} {mg : Str → Option Value} {fa f0 f1 f2 f3 f4 f5 f6 f7 f8 f9 f10 f11 f12 f13 f14 f15 f16 f17 f18 f19 : Addr} (X : K.In h) (G : h.Ns mainGlobals mg) (hfa : mg "law" = some (.ref fa))
    {od0 an0 : Option Addr} {sl0 : Array (Option Value)} {oc0 kV0 dc0 pm0 cd0 ct0 : Value}
    (a0 : PySem.W.nsIn K mainGlobals "is_integer" = some (some (.ref f0))) (l0 : K.lookup f0 = some ⟨oc0, od0, .func (PySem.W.fnOf "is_integer" "is_integer" (defArgs s_is_integer) (defBody s_is_integer) (defScope s_is_integer) .none kV0 dc0 pm0 an0 cd0 ct0), sl0⟩) (c0 : PySem.W.codeIn K cd0 "is_integer" = true) (k0 : PySem.W.keepIn K (.ref f0) = true)
    {od1 an1 : Option Addr} {sl1 : Array (Option Value)} {oc1 kV1 dc1 pm1 cd1 ct1 : Value}
    (a1 : PySem.W.nsIn K mainGlobals "can_be_told" = some (some (.ref f1))) (l1 : K.lookup f1 = some ⟨oc1, od1, .func (PySem.W.fnOf "can_be_told" "can_be_told" (defArgs s_can_be_told) (defBody s_can_be_told) (defScope s_can_be_told) .none kV1 dc1 pm1 an1 cd1 ct1), sl1⟩) (c1 : PySem.W.codeIn K cd1 "can_be_told" = true) (k1 : PySem.W.keepIn K (.ref f1) = true)
    {od2 an2 : Option Addr} {sl2 : Array (Option Value)} {oc2 kV2 dc2 pm2 cd2 ct2 : Value}
    (a2 : PySem.W.nsIn K mainGlobals "are_numbers" = some (some (.ref f2))) (l2 : K.lookup f2 = some ⟨oc2, od2, .func (PySem.W.fnOf "are_numbers" "are_numbers" (defArgs s_are_numbers) (defBody s_are_numbers) (defScope s_are_numbers) .none kV2 dc2 pm2 an2 cd2 ct2), sl2⟩) (c2 : PySem.W.codeIn K cd2 "are_numbers" = true) (k2 : PySem.W.keepIn K (.ref f2) = true)
    {od3 an3 : Option Addr} {sl3 : Array (Option Value)} {oc3 kV3 dc3 pm3 cd3 ct3 : Value}
    (a3 : PySem.W.nsIn K mainGlobals "is_person" = some (some (.ref f3))) (l3 : K.lookup f3 = some ⟨oc3, od3, .func (PySem.W.fnOf "is_person" "is_person" (defArgs s_is_person) (defBody s_is_person) (defScope s_is_person) .none kV3 dc3 pm3 an3 cd3 ct3), sl3⟩) (c3 : PySem.W.codeIn K cd3 "is_person" = true) (k3 : PySem.W.keepIn K (.ref f3) = true)
    {od4 an4 : Option Addr} {sl4 : Array (Option Value)} {oc4 kV4 dc4 pm4 cd4 ct4 : Value}
    (a4 : PySem.W.nsIn K mainGlobals "is_pair" = some (some (.ref f4))) (l4 : K.lookup f4 = some ⟨oc4, od4, .func (PySem.W.fnOf "is_pair" "is_pair" (defArgs s_is_pair) (defBody s_is_pair) (defScope s_is_pair) .none kV4 dc4 pm4 an4 cd4 ct4), sl4⟩) (c4 : PySem.W.codeIn K cd4 "is_pair" = true) (k4 : PySem.W.keepIn K (.ref f4) = true)
    {od5 an5 : Option Addr} {sl5 : Array (Option Value)} {oc5 kV5 dc5 pm5 cd5 ct5 : Value}
    (a5 : PySem.W.nsIn K mainGlobals "are_pairs" = some (some (.ref f5))) (l5 : K.lookup f5 = some ⟨oc5, od5, .func (PySem.W.fnOf "are_pairs" "are_pairs" (defArgs s_are_pairs) (defBody s_are_pairs) (defScope s_are_pairs) .none kV5 dc5 pm5 an5 cd5 ct5), sl5⟩) (c5 : PySem.W.codeIn K cd5 "are_pairs" = true) (k5 : PySem.W.keepIn K (.ref f5) = true)
    {od6 an6 : Option Addr} {sl6 : Array (Option Value)} {oc6 kV6 dc6 pm6 cd6 ct6 : Value}
    (a6 : PySem.W.nsIn K mainGlobals "is_party" = some (some (.ref f6))) (l6 : K.lookup f6 = some ⟨oc6, od6, .func (PySem.W.fnOf "is_party" "is_party" (defArgs s_is_party) (defBody s_is_party) (defScope s_is_party) .none kV6 dc6 pm6 an6 cd6 ct6), sl6⟩) (c6 : PySem.W.codeIn K cd6 "is_party" = true) (k6 : PySem.W.keepIn K (.ref f6) = true)
    {od7 an7 : Option Addr} {sl7 : Array (Option Value)} {oc7 kV7 dc7 pm7 cd7 ct7 : Value}
    (a7 : PySem.W.nsIn K mainGlobals "_law_kneaded" = some (some (.ref f7))) (l7 : K.lookup f7 = some ⟨oc7, od7, .func (PySem.W.fnOf "_law_kneaded" "_law_kneaded" (defArgs s__law_kneaded) (defBody s__law_kneaded) (defScope s__law_kneaded) .none kV7 dc7 pm7 an7 cd7 ct7), sl7⟩) (c7 : PySem.W.codeIn K cd7 "_law_kneaded" = true) (k7 : PySem.W.keepIn K (.ref f7) = true)
    {od8 an8 : Option Addr} {sl8 : Array (Option Value)} {oc8 kV8 dc8 pm8 cd8 ct8 : Value}
    (a8 : PySem.W.nsIn K mainGlobals "_law_pot_of" = some (some (.ref f8))) (l8 : K.lookup f8 = some ⟨oc8, od8, .func (PySem.W.fnOf "_law_pot_of" "_law_pot_of" (defArgs s__law_pot_of) (defBody s__law_pot_of) (defScope s__law_pot_of) .none kV8 dc8 pm8 an8 cd8 ct8), sl8⟩) (c8 : PySem.W.codeIn K cd8 "_law_pot_of" = true) (k8 : PySem.W.keepIn K (.ref f8) = true)
    {od9 an9 : Option Addr} {sl9 : Array (Option Value)} {oc9 kV9 dc9 pm9 cd9 ct9 : Value}
    (a9 : PySem.W.nsIn K mainGlobals "_law_below" = some (some (.ref f9))) (l9 : K.lookup f9 = some ⟨oc9, od9, .func (PySem.W.fnOf "_law_below" "_law_below" (defArgs s__law_below) (defBody s__law_below) (defScope s__law_below) .none kV9 dc9 pm9 an9 cd9 ct9), sl9⟩) (c9 : PySem.W.codeIn K cd9 "_law_below" = true) (k9 : PySem.W.keepIn K (.ref f9) = true)
    {od10 an10 : Option Addr} {sl10 : Array (Option Value)} {oc10 kV10 dc10 pm10 cd10 ct10 : Value}
    (a10 : PySem.W.nsIn K mainGlobals "_law_pick" = some (some (.ref f10))) (l10 : K.lookup f10 = some ⟨oc10, od10, .func (PySem.W.fnOf "_law_pick" "_law_pick" (defArgs s__law_pick) (defBody s__law_pick) (defScope s__law_pick) .none kV10 dc10 pm10 an10 cd10 ct10), sl10⟩) (c10 : PySem.W.codeIn K cd10 "_law_pick" = true) (k10 : PySem.W.keepIn K (.ref f10) = true)
    {od11 an11 : Option Addr} {sl11 : Array (Option Value)} {oc11 kV11 dc11 pm11 cd11 ct11 : Value}
    (a11 : PySem.W.nsIn K mainGlobals "_law_pairs" = some (some (.ref f11))) (l11 : K.lookup f11 = some ⟨oc11, od11, .func (PySem.W.fnOf "_law_pairs" "_law_pairs" (defArgs s__law_pairs) (defBody s__law_pairs) (defScope s__law_pairs) .none kV11 dc11 pm11 an11 cd11 ct11), sl11⟩) (c11 : PySem.W.codeIn K cd11 "_law_pairs" = true) (k11 : PySem.W.keepIn K (.ref f11) = true)
    {od12 an12 : Option Addr} {sl12 : Array (Option Value)} {oc12 kV12 dc12 pm12 cd12 ct12 : Value}
    (a12 : PySem.W.nsIn K mainGlobals "_law_some_party" = some (some (.ref f12))) (l12 : K.lookup f12 = some ⟨oc12, od12, .func (PySem.W.fnOf "_law_some_party" "_law_some_party" (defArgs s__law_some_party) (defBody s__law_some_party) (defScope s__law_some_party) .none kV12 dc12 pm12 an12 cd12 ct12), sl12⟩) (c12 : PySem.W.codeIn K cd12 "_law_some_party" = true) (k12 : PySem.W.keepIn K (.ref f12) = true)
    {od13 an13 : Option Addr} {sl13 : Array (Option Value)} {oc13 kV13 dc13 pm13 cd13 ct13 : Value}
    (a13 : PySem.W.nsIn K mainGlobals "_law_number" = some (some (.ref f13))) (l13 : K.lookup f13 = some ⟨oc13, od13, .func (PySem.W.fnOf "_law_number" "_law_number" (defArgs s__law_number) (defBody s__law_number) (defScope s__law_number) .none kV13 dc13 pm13 an13 cd13 ct13), sl13⟩) (c13 : PySem.W.codeIn K cd13 "_law_number" = true) (k13 : PySem.W.keepIn K (.ref f13) = true)
    {od14 an14 : Option Addr} {sl14 : Array (Option Value)} {oc14 kV14 dc14 pm14 cd14 ct14 : Value}
    (a14 : PySem.W.nsIn K mainGlobals "_law_is_pair" = some (some (.ref f14))) (l14 : K.lookup f14 = some ⟨oc14, od14, .func (PySem.W.fnOf "_law_is_pair" "_law_is_pair" (defArgs s__law_is_pair) (defBody s__law_is_pair) (defScope s__law_is_pair) .none kV14 dc14 pm14 an14 cd14 ct14), sl14⟩) (c14 : PySem.W.codeIn K cd14 "_law_is_pair" = true) (k14 : PySem.W.keepIn K (.ref f14) = true)
    {od15 an15 : Option Addr} {sl15 : Array (Option Value)} {oc15 kV15 dc15 pm15 cd15 ct15 : Value}
    (a15 : PySem.W.nsIn K mainGlobals "_law_is_row" = some (some (.ref f15))) (l15 : K.lookup f15 = some ⟨oc15, od15, .func (PySem.W.fnOf "_law_is_row" "_law_is_row" (defArgs s__law_is_row) (defBody s__law_is_row) (defScope s__law_is_row) .none kV15 dc15 pm15 an15 cd15 ct15), sl15⟩) (c15 : PySem.W.codeIn K cd15 "_law_is_row" = true) (k15 : PySem.W.keepIn K (.ref f15) = true)
    {od16 an16 : Option Addr} {sl16 : Array (Option Value)} {oc16 kV16 dc16 pm16 cd16 ct16 : Value}
    (a16 : PySem.W.nsIn K mainGlobals "_law_is_party" = some (some (.ref f16))) (l16 : K.lookup f16 = some ⟨oc16, od16, .func (PySem.W.fnOf "_law_is_party" "_law_is_party" (defArgs s__law_is_party) (defBody s__law_is_party) (defScope s__law_is_party) .none kV16 dc16 pm16 an16 cd16 ct16), sl16⟩) (c16 : PySem.W.codeIn K cd16 "_law_is_party" = true) (k16 : PySem.W.keepIn K (.ref f16) = true)
    {od17 an17 : Option Addr} {sl17 : Array (Option Value)} {oc17 kV17 dc17 pm17 cd17 ct17 : Value}
    (a17 : PySem.W.nsIn K mainGlobals "_law_muddled" = some (some (.ref f17))) (l17 : K.lookup f17 = some ⟨oc17, od17, .func (PySem.W.fnOf "_law_muddled" "_law_muddled" (defArgs s__law_muddled) (defBody s__law_muddled) (defScope s__law_muddled) .none kV17 dc17 pm17 an17 cd17 ct17), sl17⟩) (c17 : PySem.W.codeIn K cd17 "_law_muddled" = true) (k17 : PySem.W.keepIn K (.ref f17) = true)
    {od18 an18 : Option Addr} {sl18 : Array (Option Value)} {oc18 kV18 dc18 pm18 cd18 ct18 : Value}
    (a18 : PySem.W.nsIn K mainGlobals "_law_spoilt" = some (some (.ref f18))) (l18 : K.lookup f18 = some ⟨oc18, od18, .func (PySem.W.fnOf "_law_spoilt" "_law_spoilt" (defArgs s__law_spoilt) (defBody s__law_spoilt) (defScope s__law_spoilt) .none kV18 dc18 pm18 an18 cd18 ct18), sl18⟩) (c18 : PySem.W.codeIn K cd18 "_law_spoilt" = true) (k18 : PySem.W.keepIn K (.ref f18) = true)
    {od19 an19 : Option Addr} {sl19 : Array (Option Value)} {oc19 kV19 dc19 pm19 cd19 ct19 : Value}
    (a19 : PySem.W.nsIn K mainGlobals "law" = some (some (.ref f19))) (l19 : K.lookup f19 = some ⟨oc19, od19, .func (PySem.W.fnOf "law" "law" (defArgs s_law) (defBody s_law) (defScope s_law) .none kV19 dc19 pm19 an19 cd19 ct19), sl19⟩) (c19 : PySem.W.codeIn K cd19 "law" = true) (k19 : PySem.W.keepIn K (.ref f19) = true)
    (z0 : PySem.W.nsIn K mainGlobals "isinstance" = some none)
    (z1 : PySem.W.nsIn K mainGlobals "int" = some none)
    (z2 : PySem.W.nsIn K mainGlobals "bool" = some none)
    (z3 : PySem.W.nsIn K mainGlobals "tuple" = some none)
    (z4 : PySem.W.nsIn K mainGlobals "len" = some none)
    (z5 : PySem.W.nsIn K mainGlobals "list" = some none)
    (z6 : PySem.W.nsIn K mainGlobals "abs" = some none)
    (z7 : PySem.W.nsIn K mainGlobals "range" = some none)
    (z8 : PySem.W.nsIn K mainGlobals "zip" = some none)
    (z9 : PySem.W.nsIn K mainGlobals "enumerate" = some none)
    (z10 : PySem.W.nsIn K mainGlobals "all" = some none)
    (z11 : PySem.W.nsIn K mainGlobals "any" = some none)
    (z12 : PySem.W.nsIn K mainGlobals "repr" = some none)
    {t0 : Tok} (y0 : PySem.W.nsIn K mainGlobals "MOST_PERSONS" = some (some (.int 8 t0)))
    {t1 : Tok} (y1 : PySem.W.nsIn K mainGlobals "GREATEST_NUMBER" = some (some (.int 20 t1)))
    : ∃ fd : FuncData, (∀ (s : Shared) (v : Value), BindsTo s fd ⟨[v], []⟩ [("script", v)]) ∧ ∀ base : Heap, K.In base → base.Ns mainGlobals mg → FnG l.prog w K mg base CX0 6 fa fd ["script"] (spLaw K) := by
  have e := hfa.symm.trans (PySem.W.mg_of X G a19)
  cases e
  have F0 := fun_mk (st := s_is_integer) l0 c0 k0
  have F1 := fun_mk (st := s_can_be_told) l1 c1 k1
  have F2 := fun_mk (st := s_are_numbers) l2 c2 k2
  have F3 := fun_mk (st := s_is_person) l3 c3 k3
  have F4 := fun_mk (st := s_is_pair) l4 c4 k4
  have F5 := fun_mk (st := s_are_pairs) l5 c5 k5
  have F6 := fun_mk (st := s_is_party) l6 c6 k6
  have F7 := fun_mk (st := s__law_kneaded) l7 c7 k7
  have F8 := fun_mk (st := s__law_pot_of) l8 c8 k8
  have F9 := fun_mk (st := s__law_below) l9 c9 k9
  have F10 := fun_mk (st := s__law_pick) l10 c10 k10
  have F11 := fun_mk (st := s__law_pairs) l11 c11 k11
  have F12 := fun_mk (st := s__law_some_party) l12 c12 k12
  have F13 := fun_mk (st := s__law_number) l13 c13 k13
  have F14 := fun_mk (st := s__law_is_pair) l14 c14 k14
  have F15 := fun_mk (st := s__law_is_row) l15 c15 k15
  have F16 := fun_mk (st := s__law_is_party) l16 c16 k16
  have F17 := fun_mk (st := s__law_muddled) l17 c17 k17
  have F18 := fun_mk (st := s__law_spoilt) l18 c18 k18
  have F19 := fun_mk (st := s_law) l19 c19 k19
  exact ⟨_, fun s v => .of_eq rfl, fun base _ _ => law_ok ⟨PySem.W.mg_none_of X G z0, PySem.W.mg_none_of X G z1, PySem.W.mg_none_of X G z2, PySem.W.mg_none_of X G z3, PySem.W.mg_none_of X G z4, PySem.W.mg_none_of X G z5, PySem.W.mg_none_of X G z6, PySem.W.mg_none_of X G z7, PySem.W.mg_none_of X G z8, PySem.W.mg_none_of X G z9, PySem.W.mg_none_of X G z10, PySem.W.mg_none_of X G z11, PySem.W.mg_none_of X G z12, ⟨_, PySem.W.mg_of X G y0⟩, ⟨_, PySem.W.mg_of X G y1⟩, ⟨_, _, PySem.W.mg_of X G a0, F0, F0.binds (ps := ["thing"]) fun _ _ _ _ _ _ us hl => match us, hl with | [_], _ => rfl⟩, ⟨_, _, PySem.W.mg_of X G a1, F1, F1.binds (ps := ["thing"]) fun _ _ _ _ _ _ us hl => match us, hl with | [_], _ => rfl⟩, ⟨_, _, PySem.W.mg_of X G a2, F2, F2.binds (ps := ["thing"]) fun _ _ _ _ _ _ us hl => match us, hl with | [_], _ => rfl⟩, ⟨_, _, PySem.W.mg_of X G a3, F3, F3.binds (ps := ["thing", "many"]) fun _ _ _ _ _ _ us hl => match us, hl with | [_, _], _ => rfl⟩, ⟨_, _, PySem.W.mg_of X G a4, F4, F4.binds (ps := ["thing", "many"]) fun _ _ _ _ _ _ us hl => match us, hl with | [_, _], _ => rfl⟩, ⟨_, _, PySem.W.mg_of X G a5, F5, F5.binds (ps := ["thing", "many"]) fun _ _ _ _ _ _ us hl => match us, hl with | [_, _], _ => rfl⟩, ⟨_, _, PySem.W.mg_of X G a6, F6, F6.binds (ps := ["thing"]) fun _ _ _ _ _ _ us hl => match us, hl with | [_], _ => rfl⟩, ⟨_, _, PySem.W.mg_of X G a7, F7, F7.binds (ps := ["seed", "lap"]) fun _ _ _ _ _ _ us hl => match us, hl with | [_, _], _ => rfl⟩, ⟨_, _, PySem.W.mg_of X G a8, F8, F8.binds (ps := ["script"]) fun _ _ _ _ _ _ us hl => match us, hl with | [_], _ => rfl⟩, ⟨_, _, PySem.W.mg_of X G a9, F9, F9.binds (ps := ["pot", "bound"]) fun _ _ _ _ _ _ us hl => match us, hl with | [_, _], _ => rfl⟩, ⟨_, _, PySem.W.mg_of X G a10, F10, F10.binds (ps := ["pot", "items"]) fun _ _ _ _ _ _ us hl => match us, hl with | [_, _], _ => rfl⟩, ⟨_, _, PySem.W.mg_of X G a11, F11, F11.binds (ps := ["many"]) fun _ _ _ _ _ _ us hl => match us, hl with | [_], _ => rfl⟩, ⟨_, _, PySem.W.mg_of X G a12, F12, F12.binds (ps := ["pot", "most"]) fun _ _ _ _ _ _ us hl => match us, hl with | [_, _], _ => rfl⟩, ⟨_, _, PySem.W.mg_of X G a13, F13, F13.binds (ps := ["thing", "start", "most"]) fun _ _ _ _ _ _ us hl => match us, hl with | [_, _, _], _ => rfl⟩, ⟨_, _, PySem.W.mg_of X G a14, F14, F14.binds (ps := ["thing", "many"]) fun _ _ _ _ _ _ us hl => match us, hl with | [_, _], _ => rfl⟩, ⟨_, _, PySem.W.mg_of X G a15, F15, F15.binds (ps := ["thing", "many"]) fun _ _ _ _ _ _ us hl => match us, hl with | [_, _], _ => rfl⟩, ⟨_, _, PySem.W.mg_of X G a16, F16, F16.binds (ps := ["thing"]) fun _ _ _ _ _ _ us hl => match us, hl with | [_], _ => rfl⟩, ⟨_, _, PySem.W.mg_of X G a17, F17, F17.binds (ps := ["pot", "row", "odd"]) fun _ _ _ _ _ _ us hl => match us, hl with | [_, _, _], _ => rfl⟩, ⟨_, _, PySem.W.mg_of X G a18, F18, F18.binds (ps := ["pot", "party"]) fun _ _ _ _ _ _ us hl => match us, hl with | [_, _], _ => rfl⟩, ⟨_, _, PySem.W.mg_of X G a19, F19, F19.binds (ps := ["script"]) fun _ _ _ _ _ _ us hl => match us, hl with | [_], _ => rfl⟩⟩ F19⟩
end K02
open PySem PySem.W PyProof.Rows
set_option maxHeartbeats 0 in
theorem PySem.Challenge.cw_metnumbers_k02_parties_recognized_holds : PySem.Challenge.rw_metnumbers_k02_parties_recognized.Holds := by
  w_on; o_law; k_head; (case hw => w_witness2)
  k_fill
  refine DL.walkG (l := PySem.Challenge.rw_metnumbers_k02_parties_recognized) (n := 63) (k := 6) (x := "script") (CX := L2.CX0) (sp := DL.spLaw) rfl (by decide) rfl ⟨rfl, by decide, by decide⟩ (fun w h Y => PySem.W.kIn_of Y) ?F (fun _ _ a ns hl hS => ⟨a, ns, rfl, hS, hl, fun _ => rfl⟩) (fun _ _ _ _ h => h)
  case F =>
    intro w mg fa h KX G hmg
    refine' K02.all_mk (l := PySem.Challenge.rw_metnumbers_k02_parties_recognized) (w := w) KX G hmg ?a0 ?l0 ?c0 ?k0 ?a1 ?l1 ?c1 ?k1 ?a2 ?l2 ?c2 ?k2 ?a3 ?l3 ?c3 ?k3 ?a4 ?l4 ?c4 ?k4 ?a5 ?l5 ?c5 ?k5 ?a6 ?l6 ?c6 ?k6 ?a7 ?l7 ?c7 ?k7 ?a8 ?l8 ?c8 ?k8 ?a9 ?l9 ?c9 ?k9 ?a10 ?l10 ?c10 ?k10 ?a11 ?l11 ?c11 ?k11 ?a12 ?l12 ?c12 ?k12 ?a13 ?l13 ?c13 ?k13 ?a14 ?l14 ?c14 ?k14 ?a15 ?l15 ?c15 ?k15 ?a16 ?l16 ?c16 ?k16 ?a17 ?l17 ?c17 ?k17 ?a18 ?l18 ?c18 ?k18 ?a19 ?l19 ?c19 ?k19 ?z0 ?z1 ?z2 ?z3 ?z4 ?z5 ?z6 ?z7 ?z8 ?z9 ?z10 ?z11 ?z12 ?y0 ?y1
    (case a0 => k_is); (case l0 => k_is); (case c0 => k_is); (case k0 => k_is); (case a1 => k_is); (case l1 => k_is); (case c1 => k_is); (case k1 => k_is); (case a2 => k_is); (case l2 => k_is); (case c2 => k_is); (case k2 => k_is); (case a3 => k_is); (case l3 => k_is); (case c3 => k_is); (case k3 => k_is); (case a4 => k_is); (case l4 => k_is); (case c4 => k_is); (case k4 => k_is); (case a5 => k_is); (case l5 => k_is); (case c5 => k_is); (case k5 => k_is); (case a6 => k_is); (case l6 => k_is); (case c6 => k_is); (case k6 => k_is); (case a7 => k_is); (case l7 => k_is); (case c7 => k_is); (case k7 => k_is); (case a8 => k_is); (case l8 => k_is); (case c8 => k_is); (case k8 => k_is); (case a9 => k_is); (case l9 => k_is); (case c9 => k_is); (case k9 => k_is); (case a10 => k_is); (case l10 => k_is); (case c10 => k_is); (case k10 => k_is); (case a11 => k_is); (case l11 => k_is); (case c11 => k_is); (case k11 => k_is); (case a12 => k_is); (case l12 => k_is); (case c12 => k_is); (case k12 => k_is); (case a13 => k_is); (case l13 => k_is); (case c13 => k_is); (case k13 => k_is); (case a14 => k_is); (case l14 => k_is); (case c14 => k_is); (case k14 => k_is); (case a15 => k_is); (case l15 => k_is); (case c15 => k_is); (case k15 => k_is); (case a16 => k_is); (case l16 => k_is); (case c16 => k_is); (case k16 => k_is); (case a17 => k_is); (case l17 => k_is); (case c17 => k_is); (case k17 => k_is); (case a18 => k_is); (case l18 => k_is); (case c18 => k_is); (case k18 => k_is); (case a19 => k_is); (case l19 => k_is); (case c19 => k_is); (case k19 => k_is); (case z0 => k_is); (case z1 => k_is); (case z2 => k_is); (case z3 => k_is); (case z4 => k_is); (case z5 => k_is); (case z6 => k_is); (case z7 => k_is); (case z8 => k_is); (case z9 => k_is); (case z10 => k_is); (case z11 => k_is); (case z12 => k_is); (case y0 => k_is); (case y1 => k_is)

