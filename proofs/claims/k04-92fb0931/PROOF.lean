import PyProof.Rows.All
import Wide.All
import OpenK.AllK
import Wide.FinOn
import PyProof.EqAt
import PyProof.EqKinds
import PyProof.TupleCall
import PyProof.ReprRoads
import HandS.ForMost
import HandS.IsInst
import KE.KEqSeq
import HandS.Style
import HandS.TupAny
import HandS.TupMul
import HandS.SortInts
import KE.KRevSl
import KE.GoesMore
import KE.GoesEnum
import KE.KExcInit
import HandS.ForExc
import HandS.ExcIs
import HandS.CallLocal
import KE.KExcIs
import HandS.ExcValue
import HandS.Conv
import HandS.Star
import HandS.ExcOwn
import PySem.Challenge.RW_leastplaces_k04_claims_of_rows
set_option Elab.async false
set_option linter.all false
set_option maxRecDepth 100000
set_option maxHeartbeats 4000000
/-! Defs that may ask repr: what runs around them holds no repr under way. -/
namespace Gd
open PySem PySem.Spec PyProof.Rows L2

theorem guards_deeper {A : Around} (env : Env) (h : A.guards = some []) : (A.deeper env).guards = some [] := by
  first | exact h | (simpa [Around.deeper] using h)

/-- as FnOk, asked only where no repr is under way -/
structure FnG (P : Program) (w : World) (K : PySem.W.Frag) (mg : Str → Option Value) (base : Heap) (CX : CXT) (k : Nat) (f : Addr) (fd : FuncData) (ps : List Str) (sp : Sp) : Prop where
  len : ∀ vs H Q E, sp vs H Q E → vs.length = ps.length
  run : ∀ (A : Around) (fr : List Env) (s : Shared) (H : Hp) (ar : Args) (us : List Value) (vs : List V) (Q : VK) (E : XK), Room k A → A.guards = some [] → Env0 P w K mg base A fr s H → BindsTo s fd ar (ps.zip us) →
    Vals vs us → sp vs H Q E → codeAny (model P w) A (.call (.ref f) ar) (CR CX fr P w H s Q E) s

section
variable {P : Program} {w : World} {K : PySem.W.Frag} {mg : Str → Option Value} {base : Heap}
theorem fnG_of {x qual : Str} {st : Stmt} {f : Addr} {fd : FuncData} {N ps : List Str} {k : Nat} {sp : Sp} (F : Fun K x qual st f fd) (S : FnScope N ps (defScope st)) (len : ∀ vs H Q E, sp vs H Q E → vs.length = ps.length)
    (body : ∀ (cdv : Value) (A : Around) (fr : List Env) (s : Shared) (H : Hp) (vs : List V) (Q : VK) (E : XK), Room k (A.deeper (envOfC qual (defScope st) s.heap.objs.size f cdv)) →
      (A.deeper (envOfC qual (defScope st) s.heap.objs.size f cdv)).guards = some [] → sp vs H Q E →
      ∃ t, PSs (cxOf CX0 P w K mg base N qual (defScope st) f cdv A fr s H E).nox (defBody st) t ∧ t { nx := fun _ H' => Q .non H', rt := Q } (start N vs) H) : FnG P w K mg base CX0 (k + 1) f fd ps sp := by
  obtain ⟨oc, od, kV, doc, pm, an, cdv, ct, osl, rfl, lk, hcd⟩ := F.ex
  refine ⟨len, ?_⟩
  intro A fr s H ar us vs Q E room gd env bd rel want
  have inK : K.In s.heap := env.mod.kin.keeps (fun b o z => (env.bs b o z).1)
  have nolim : s.heap.NoLimit := env.mod.nolimit.keeps (fun b o z => (env.bs b o z).1)
  refine codeAny_call_function room.depth (inK _ _ lk) rfl S.co S.gen rfl
    (PySem.W.codeRec_of inK hcd) (bd _ _ _ _ ?_)
  refine wpAny_newFunctionEnv_cells S.kind ?kinds ?rest
  case kinds =>
    rintro ⟨n, v⟩ hm
    have par := S.par n (List.of_mem_zip hm).1
    rcases par with z | z
    · exact Or.inl z
    · exact Or.inr (And.intro z (PySem.W.cellsFrom_some _ _ _ (.inl z)))
  case rest =>
    intro env1 e1 s1 inCall
    subst e1
    refine ⟨nolim.keeps inCall.toInCall.keep, codeAny_func ?_⟩
    obtain ⟨t, tree, reading⟩ := body cdv A fr s H vs Q E (room.deeper _) (guards_deeper _ gd) want
    have I0 : Inv (cxOf CX0 P w K mg base N qual (defScope st) f cdv A fr s H E) [] (start N vs) H s1 := inv_start S room.hd env (len _ _ _ _ want) rel inCall
    have ran := tree.nox.run [] s1 (start N vs) H _ I0 reading
    refine wpAny_mono ran ?good (fun _ _ z => z)
    case good =>
      intro flow s2 end2
      cases flow with
      | brk => obtain ⟨_, _, _, no⟩ := end2; exact no.elim
      | cont => obtain ⟨_, _, _, no⟩ := end2; exact no.elim
      | next =>
        obtain ⟨σ2, H2, I2, q2⟩ := end2
        exact (⟨.non, H2, I2.os, I2.bare, I2.base, I2.hok, rfl, q2⟩ : CE fr P w H s Q Value.none s2)
      | ret u =>
        obtain ⟨v, σ2, H2, I2, rv, q2⟩ := end2
        exact (⟨v, H2, I2.os, I2.bare, I2.base, I2.hok, rv, q2⟩ : CE fr P w H s Q u s2)

/-- the law's own call -/
theorem law_runG {mb : Str → Option Value} {CX : CXT} {k : Nat} {fa a : Addr} {fd : FuncData} {x : Str} {sp : Sp} {s₁ : Shared} {vs : List Value} {ns : List Int}
    (inK : K.In s₁.heap) (glob : s₁.heap.Ns mainGlobals mg) (blt : s₁.heap.Ns builtinsNs mb) (plain : ∀ y : Str, y ≠ "__name__" → mb y = bootBuiltins y) (nolim : s₁.heap.NoLimit) (nogen : s₁.gens = #[])
    (obj : s₁.heap.get? a = some { cls := .type "list", data := .seq vs.toArray }) (isInts : IntsAre vs ns) (short : ns.length ≤ sizeLine) (room : Room k callerA)
    (F : ∀ b : Heap, K.In b → b.Ns mainGlobals mg → FnG P w K mg b CX k fa fd [x] sp) (bd : ∀ (s : Shared) (u : Value), BindsTo s fd ⟨[u], []⟩ [(x, u)])
    (want : ∀ H : Hp, Only H → SqL K H a (ns.map V.int) → sp [.ref a] H (fun v _ => v = .bl true) fun _ _ _ => False)
    (noX : ∀ H e s', CX [] H s₁ (fun _ _ _ => False) e s' → False) :
    codeAny (model P w) callerA (.call (.ref fa) ⟨[.ref a], []⟩) (fun r s' => r = .ok (.ret (.bool true)) ∧ OldK s₁.heap s'.heap ∧ s'.os = s₁.os ∧ AllBare s'.gens) s₁ := by
  have rel : Vals (ns.map V.int) vs := vals_ints isInts
  have sizes : vs.length = ns.length := isInts.length
  -- the abstract heap: the script alone, unless the module's own part holds it
  obtain ⟨H, only, script, held, alone, apart⟩ : ∃ H : Hp, Only H ∧ SqL K H a (ns.map V.int) ∧ HOk P w H s₁.heap ∧ (∀ b, H b ≠ none → b = a) ∧ (∀ o, K.lookup a = some o → H a = none) := by
    cases own : K.lookup a with
    | some o =>
      have same := (inK a o own).symm.trans obj
      cases same
      refine ⟨fun _ => none, fun _ => Or.inl rfl, Or.inr ?_, ?_, fun b z => (z rfl).elim, fun _ _ => rfl⟩
      · exact ⟨_, vs.toArray, _, own, rfl, rfl, rfl, by rw [List.size_toArray, sizes]; exact short, by simpa using rel⟩
      · intro b u z
        cases z
    | none =>
      refine ⟨fun b => if b = a then some (.frz ⟨.type "list", none, .seq vs.toArray 0, #[]⟩ (.lst (ns.map V.int))) else none, ?_, ?_, ?_, ?_, fun o z => by cases z⟩
      · intro b
        by_cases e : b = a
        · exact Or.inr ⟨_, _, if_pos e⟩
        · exact Or.inl (if_neg e)
      · exact Or.inl (Or.inr ⟨_, if_pos rfl⟩)
      · intro b u z
        by_cases e : b = a
        · subst e
          dsimp only at z
          rw [if_pos rfl] at z
          cases z
          exact ⟨obj, by rw [List.length_map]; exact short, vs, _, rel, obj⟩
        · dsimp only at z
          rw [if_neg e] at z
          cases z
      · intro b z
        by_cases e : b = a
        · exact e
        · exact (z (if_neg e)).elim
  have free : ∀ {b : Addr} {o : Obj} {es : Array DictEntry} {n : Nat}, s₁.heap.get? b = some o → o.data = .dict es n → H b = none := by
    intro b o es n z d
    cases q : H b with
    | none => rfl
    | some u =>
      have e := alone b (by rw [q]; exact fun y => nomatch y)
      subst e
      rw [obj] at z
      cases z
      cases (show Data.seq vs.toArray 0 = Data.dict es n from d)
  have keepNs : ∀ {b : Addr} {m : Str → Option Value}, s₁.heap.Ns b m → (hidT s₁.heap H).Ns b m := by
    rintro b m ⟨o, es, n, z, d, r⟩
    exact ⟨o, es, n, hidT_get z (free z d), d, r⟩
  have keepK : K.In (hidT s₁.heap H) := by
    intro b o z
    refine hidT_get (inK b o z) ?_
    cases q : H b with
    | none => rfl
    | some u =>
      have e := alone b (by rw [q]; exact fun y => nomatch y)
      subst e
      rw [apart o z] at q
      cases q
  have mod : Mod K mg (hidT s₁.heap H) := by
    obtain ⟨mc, c1, c2⟩ := nolim
    exact ⟨keepK, keepNs glob, ⟨mb, keepNs blt, plain⟩, ⟨mc, keepNs c1, c2⟩⟩
  have env : Env0 P w K mg (hidT s₁.heap H) callerA [] s₁ H := by
    refine ⟨rfl, mod, fun b o z => of_hidT z, ?_, trivial, ?_, held, .of_eq nogen⟩
    · rw [hidT_size]
      exact Nat.le_refl _
    · intro b z
      exact nomatch (show b ∈ ([] : List Addr) from z)
  have ran := (F _ keepK (keepNs glob)).run callerA [] s₁ H ⟨[.ref a], []⟩ [.ref a] [.ref a] _ _ room rfl env (bd s₁ (.ref a)) (.cons rfl .nil) (want H only script)
  refine codeAny_mono ran ?_
  intro r s2 end2
  cases r with
  | error e => exact (noX H e s2 end2).elim
  | ok fl =>
    cases fl with
    | next => exact False.elim end2
    | brk => exact False.elim end2
    | cont => exact False.elim end2
    | ret u =>
      obtain ⟨v, H2, os2, bare2, un2, ok2, rv, yes⟩ := end2
      have yes' : v = .bl true := yes
      subst yes'
      have eu : u = Value.bool true := rv
      subst eu
      refine ⟨rfl, OldK.of_keep ?_, os2, bare2⟩
      intro b o z
      rcases only b with no | ⟨ob, xs, fz⟩
      · refine un2.keep b o z no ?_ ?_
        · intro y
          exact nomatch (show b ∈ ([] : List Addr) from y)
        · intro y
          exact nomatch y
      · have was := (held b _ fz).1
        have now := (ok2 b _ (un2.frzs b ob _ fz)).1
        rw [z] at was
        cases was
        exact now

theorem walk_G {l : PySem.W.OpenLaw} {n k : Nat} {q : Program} {loose : List Str} {XP : (Str → Option Value) → Heap → Prop} {YP : World → Heap → Prop} {d : DefRec} {K : Params → PySem.W.Frag} {sp : PySem.W.Frag → Sp} {x : Str}
    (hn : l.most = some n) (fits : n ≤ sizeLine) (nodf : d.params.defaults = []) (room : Room k callerA) (hY : ∀ (w : World) (h : Heap), YP w h → (K w.params).In h)
    (F : ∀ (w : World) (mg : Str → Option Value) (fa : Addr) (h : Heap), (K w.params).In h → h.Ns mainGlobals mg → mg d.name = some (.ref fa) → ∃ fd : FuncData, (∀ (s : Shared) (u : Value), BindsTo s fd ⟨[u], []⟩ [(x, u)]) ∧
      ∀ b : Heap, (K w.params).In b → b.Ns mainGlobals mg → FnG l.prog w (K w.params) mg b CX0 k fa fd [x] (sp (K w.params)))
    (want : ∀ (K : PySem.W.Frag) (H : Hp) (a : Addr) (ns : List Int), ns.length ≤ n → Only H → SqL K H a (ns.map V.int) → sp K [.ref a] H (fun v _ => v = .bl true) fun _ _ _ => False) :
    PySem.W.WalkO q loose XP YP l.row.toRowW d [] (fun f vs => PySem.call f vs) := by
  apply Att.attach_call hn nodf
  intro w s₀ s₁ mg mb fa o pm cd doc a vs ns G Y ho hd hcd hmg obj isInts hlen nogen
  obtain ⟨fd, bd, hF⟩ := F w mg fa _ (hY w _ Y) G.T.g hmg
  exact law_runG (hY w _ Y) G.T.g G.T.b G.T.builtins G.T.nolimit nogen obj isInts (Nat.le_trans hlen fits) room hF bd (fun H h1 h2 => want _ H a ns hlen h1 h2) (fun _ _ _ z => z)
end
end Gd
/-! Data at any depth, dicts of plain values among them, and what repr says of it. -/
namespace Gd
open PySem PySem.Spec PyProof.Rows L2

/-- a plain value as data -/
def vD : V → PyData
  | .non => .none
  | .bl b => .bool b
  | .int i => .int i
  | .str x => .str x
  | _ => .none
def kD : Key → PyData
  | .inl i => .int i
  | .inr x => .str x
def plainV : V → Bool
  | .non => true
  | .bl _ => true
  | .int _ => true
  | .str _ => true
  | _ => false

/-- the value v is the data d, and none of its objects is one of av -/
inductive Dv (av : Addr → Prop) (H : Hp) : V → PyData → Prop
  | non : Dv av H .non .none
  | bl (b : Bool) : Dv av H (.bl b) (.bool b)
  | int (i : Int) : Dv av H (.int i) (.int i)
  | str (x : Str) : Dv av H (.str x) (.str x)
  | lst {a : Addr} {xs : List V} {ds : List PyData} : H a = some (.lst xs) → ¬ av a → xs.length = ds.length → (∀ (i : Nat) (x : V) (d : PyData), xs[i]? = some x → ds[i]? = some d → Dv av H x d) → Dv av H (.ref a) (.list ds)
  | tup {a : Addr} {xs : List V} {ds : List PyData} : H a = some (.tup xs) → ¬ av a → xs.length = ds.length → (∀ (i : Nat) (x : V) (d : PyData), xs[i]? = some x → ds[i]? = some d → Dv av H x d) → Dv av H (.ref a) (.tuple ds)
  | dct {a : Addr} {kvs : List (Key × V)} : H a = some (.dK kvs) → ¬ av a → (∀ p ∈ kvs, plainV p.2 = true) → Dv av H (.ref a) (.dict (kvs.map fun p => (kD p.1, vD p.2)))

/-- all but the objects of av stays -/
def Kp (av : Addr → Prop) (H H' : Hp) : Prop := ∀ b o, H b = some o → ¬ av b → H' b = some o
theorem Kp.refl {av : Addr → Prop} (H : Hp) : Kp av H H := fun _ _ h _ => h
theorem Kp.trans {av : Addr → Prop} {H H1 H2 : Hp} (a : Kp av H H1) (b : Kp av H1 H2) : Kp av H H2 := fun c o h n => b c o (a c o h n) n
theorem Kp.of_same {av : Addr → Prop} {H H1 : Hp} (a : Same H H1) : Kp av H H1 := fun c o h _ => a c o h
theorem Dv.keep {av : Addr → Prop} {H H' : Hp} (k : Kp av H H') {v : V} {d : PyData} (h : Dv av H v d) : Dv av H' v d := by
  induction h with
  | non => exact .non
  | bl b => exact .bl b
  | int i => exact .int i
  | str x => exact .str x
  | lst e n l _ ih => exact .lst (k _ _ e n) n l ih
  | tup e n l _ ih => exact .tup (k _ _ e n) n l ih
  | dct e n p => exact .dct (k _ _ e n) n p

section
variable {prog : Program} {w : World} {h : Heap}
def Rk (prog : Program) (w : World) (h : Heap) (u : Value) (d : PyData) : Prop := (∃ as, Reads h u d as) ∧ ∃ bs, ReadAtMost h d.depth bs ∧ ReprK prog w bs h d.depth u d.shown
def RkAll (prog : Program) (w : World) (h : Heap) (us : List Value) (ds : List PyData) : Prop :=
  (∃ as, ReadsAll h us ds as) ∧ ∃ bs, ReadAtMost h (PyData.depthAll ds) bs ∧ ReprAllK prog w bs h (PyData.depthAll ds) us (PyData.shownAll ds)
theorem rk_nil : RkAll prog w h [] [] := ⟨⟨_, .nil⟩, [], (fun _ z => nomatch z), by rw [PyData.shownAll]; exact .nil⟩
theorem rk_cons {u : Value} {d : PyData} {us : List Value} {ds : List PyData} (a : Rk prog w h u d) (b : RkAll prog w h us ds) : RkAll prog w h (u :: us) (d :: ds) := by
  obtain ⟨⟨as, r⟩, b1, m1, k1⟩ := a
  obtain ⟨⟨cs, rs⟩, b2, m2, k2⟩ := b
  refine ⟨⟨_, .cons r rs⟩, b1 ++ b2, ?_, ?_⟩
  · rw [PyData.depthAll]
    exact (m1.mono (Nat.le_max_left _ _)).append (m2.mono (Nat.le_max_right _ _))
  · rw [PyData.depthAll, PyData.shownAll]
    refine .cons ((k1.more ?_).level_le (Nat.le_max_left _ _)) (k2.more_le ?_ (Nat.le_max_right _ _))
    · exact fun c z => List.mem_append_left _ z
    · exact fun c z => List.mem_append_right _ z
theorem rk_list {a : Addr} {o : Obj} {vs : List Value} {n : Nat} {ds : List PyData} (e : h.get? a = some o) (c : o.cls = .type "list") (dt : o.data = .seq vs.toArray n) (all : RkAll prog w h vs ds) : Rk prog w h (.ref a) (.list ds) := by
  obtain ⟨⟨as, rs⟩, bs, m, k⟩ := all
  have r : Reads h (.ref a) (.list ds) (a :: as) := .list e c dt rs
  have deep : PyData.depth (.list ds) = PyData.depthAll ds + 1 := by rw [PyData.depth]
  refine ⟨⟨_, r⟩, a :: bs, ReadAtMost.cons r (by omega) m, ?_⟩
  rw [deep, PyData.shown]
  cases vs with
  | nil =>
    cases rs
    rw [PyData.shownAll, listText_nil]
    exact ReprK.listEmpty e c dt
  | cons x l => exact ReprK.list e c dt (not_mem_of_deeper r (by omega) m) (by simpa using k.length_eq) (fun i y z => k.item i y (by simpa using z))
theorem rk_tuple {a : Addr} {o : Obj} {vs : List Value} {n : Nat} {ds : List PyData} (e : h.get? a = some o) (c : o.cls = .type "tuple") (dt : o.data = .seq vs.toArray n) (all : RkAll prog w h vs ds) : Rk prog w h (.ref a) (.tuple ds) := by
  obtain ⟨⟨as, rs⟩, bs, m, k⟩ := all
  have r : Reads h (.ref a) (.tuple ds) as := .tuple e c dt rs
  have deep : PyData.depth (.tuple ds) = PyData.depthAll ds + 1 := by rw [PyData.depth]
  refine ⟨⟨_, r⟩, a :: bs, ReadAtMost.cons r (by omega) m, ?_⟩
  rw [deep, PyData.shown]
  exact ReprK.tuple e c dt (not_mem_of_deeper r (by omega) m) k
theorem rk_plain {v : V} {u : Value} (p : plainV v = true) (r : RelV v u) : Reads h u (vD v) [] := by
  cases v with
  | non => cases r; exact .none
  | bl b => cases r; exact .bool b
  | int i => obtain ⟨t, rfl⟩ := r; exact .int i t
  | str x => obtain ⟨t, rfl⟩ := r; exact .str x t
  | byt b => cases p
  | flt b => cases p
  | ref a => cases p
  | ty n => cases p
theorem rk_dict {a : Addr} {kvs : List (Key × V)} (ok : ObjOk prog w H h a (.dK kvs)) (pl : ∀ p ∈ kvs, plainV p.2 = true) (sh : (PyData.dict (kvs.map fun p => (kD p.1, vD p.2))).showable = true)
    (sz : (PyData.dict (kvs.map fun p => (kD p.1, vD p.2))).shown.length ≤ sizeLine) : Rk prog w h (.ref a) (.dict (kvs.map fun p => (kD p.1, vD p.2))) := by
  obtain ⟨_, hm, vs, rel, o, es, ep, e, ex, dt, _, prs, _⟩ := ok
  have ks : ∀ (kvs : List (Key × V)) (vs : List (Key × Value)) (l : List DictEntry), (∀ p ∈ kvs, plainV p.2 = true) → KV kvs vs → Pairs (mixKind prog w) l vs →
      ReadsAll h (l.map (·.key)) ((kvs.map fun p => (kD p.1, vD p.2)).map (·.1)) [] ∧ ReadsAll h (l.map (·.val)) ((kvs.map fun p => (kD p.1, vD p.2)).map (·.2)) [] := by
    intro kvs
    induction kvs with
    | nil =>
      intro vs l _ q p
      cases q
      cases p
      exact ⟨.nil, .nil⟩
    | cons kv kvs ih =>
      intro vs l pl q p
      cases q with
      | cons q1 q2 =>
        cases p with
        | cons p1 p2 p3 =>
          obtain ⟨i1, i2⟩ := ih _ _ (fun p z => pl p (List.mem_cons_of_mem _ z)) q2 p3
          obtain ⟨q1a, q1b⟩ := q1
          refine ⟨?_, ?_⟩
          · refine ReadsAll.cons (as := []) (bs := []) ?_ i1
            rw [← q1a] at p1
            obtain ⟨k1, v1⟩ := kv
            rcases keyIs_shape p1 with ⟨i, t, ek, ev⟩ | ⟨x, t, ek, ev⟩
            · dsimp only at ek
              subst ek
              dsimp only
              rw [ev]
              exact .int i t
            · dsimp only at ek
              subst ek
              dsimp only
              rw [ev]
              exact .str x t
          · refine ReadsAll.cons (as := []) (bs := []) ?_ i2
            dsimp only
            rw [p2]
            exact rk_plain (pl kv List.mem_cons_self) q1b
  obtain ⟨r1, r2⟩ := ks kvs vs es.toList pl rel prs
  have r : Reads h (.ref a) (.dict (kvs.map fun p => (kD p.1, vD p.2))) (a :: [] ++ []) := .dict e ex.1 dt r1 r2
  refine ⟨⟨_, r⟩, ReprK.of_reads r sh (fun _ z => ?_) sz⟩
  rcases List.mem_cons.mp z with q | q
  · rw [← q] at hm
    exact Bool.noConfusion ((beq_self_eq_true sysModules).symm.trans hm)
  · exact nomatch q
end

theorem shownAll_mem : ∀ {ds : List PyData} {d : PyData}, d ∈ ds → d.shown ∈ PyData.shownAll ds
  | [], _, h => nomatch h
  | x :: r, d, h => by
    rw [PyData.shownAll]
    rcases List.mem_cons.mp h with rfl | h
    · exact List.mem_cons_self
    · exact List.mem_cons_of_mem _ (shownAll_mem h)
theorem showableAll_mem : ∀ {ds : List PyData} {d : PyData}, PyData.showableAll ds = true → d ∈ ds → d.showable = true
  | [], _, _, h => nomatch h
  | x :: r, d, s, h => by
    rw [PyData.showableAll, Bool.and_eq_true] at s
    rcases List.mem_cons.mp h with rfl | h
    · exact s.1
    · exact showableAll_mem s.2 h

section
variable {X : Cx} {pins : List (Addr × Obj)} {σ : L2.St} {H : Hp} {s : Shared} {av : Addr → Prop}
theorem rk_all {xs : List V} {ds : List PyData} (ih : ∀ (i : Nat) (x : V) (d : PyData), xs[i]? = some x → ds[i]? = some d → ∀ u, RelV x u → Rk X.prog X.w s.heap u d) (l : xs.length = ds.length) {us : List Value} (r : Vals xs us) : RkAll X.prog X.w s.heap us ds := by
  induction r generalizing ds with
  | nil =>
    cases ds with
    | nil => exact rk_nil
    | cons d ds => cases l
  | cons r1 r2 ih2 =>
    cases ds with
    | nil => cases l
    | cons d ds => exact rk_cons (ih 0 _ _ rfl rfl _ r1) (ih2 (fun i x e h1 h2 => ih (i + 1) x e h1 h2) (Nat.succ.inj l))
theorem Dv.rk (I : Inv X pins σ H s) {v : V} {d : PyData} (h : Dv av H v d) : d.showable = true → d.shown.length ≤ sizeLine → ∀ u, RelV v u → Rk X.prog X.w s.heap u d := by
  have flat : ∀ {u : Value} {d : PyData}, Reads s.heap u d [] → d.hasDict = false → d.showable = true → d.shown.length ≤ sizeLine → Rk X.prog X.w s.heap u d := fun r n sh sz => ⟨⟨_, r⟩, ReprK.of_reads r sh (fun z => by rw [n] at z; cases z) sz⟩
  induction h with
  | non => intro sh sz u r; cases r; exact flat .none rfl sh sz
  | bl b => intro sh sz u r; cases r; exact flat (.bool b) rfl sh sz
  | int i => intro sh sz u r; obtain ⟨t, rfl⟩ := r; exact flat (.int i t) rfl sh sz
  | str x => intro sh sz u r; obtain ⟨t, rfl⟩ := r; exact flat (.str x t) rfl sh sz
  | lst e n l _ ih =>
    intro sh sz u r
    cases r
    obtain ⟨_, its, m, rv, ho⟩ := I.hok _ _ e
    rw [PyData.shown] at sz
    rw [PyData.showable] at sh
    refine rk_list ho rfl rfl (rk_all (fun i x d h1 h2 u q => ?_) l rv)
    exact ih i x d h1 h2 (showableAll_mem sh (List.mem_of_getElem? h2)) (Nat.le_trans (listText_mem_le (shownAll_mem (List.mem_of_getElem? h2))) sz) u q
  | tup e n l _ ih =>
    intro sh sz u r
    cases r
    obtain ⟨_, its, rv, o, ho, hc, m, hd⟩ := I.hok _ _ e
    rw [PyData.shown] at sz
    rw [PyData.showable] at sh
    refine rk_tuple ho hc hd (rk_all (fun i x d h1 h2 u q => ?_) l rv)
    exact ih i x d h1 h2 (showableAll_mem sh (List.mem_of_getElem? h2)) (Nat.le_trans (tupleText_mem_le (shownAll_mem (List.mem_of_getElem? h2))) sz) u q
  | dct e n p =>
    intro sh sz u r
    cases r
    exact rk_dict (I.hok _ _ e) p sh sz

/-- repr(x), x any data: its text -/
def rRepr (av : Addr → Prop) : List V → Hp → VK → Prop := fun xs H Q => ∃ x d, xs = [x] ∧ Dv av H x d ∧ d.showable = true ∧ d.shown.length ≤ sizeLine ∧ d.depth ≤ 60 ∧ Q (.str d.shown) H
theorem call_repr (hg : X.A.guards = some []) (hu : X.A.units + 64 < cLine) : CallR X (.builtin "repr") (rRepr av) := by
  intro pins s σ H xs us Q I r want
  obtain ⟨x, d, rfl, dv, sh, sz, dp, q⟩ := want
  obtain ⟨u, rfl, ru⟩ := vals1 r
  have ends : ∀ h' t tk, (∀ b o, s.heap.get? b = some o → h'.get? b = some o) → EP X pins σ Q (.str d.shown t) { s with heap := h', toks := tk } := fun h' t tk k => ⟨.str d.shown, H, I.kept k, ⟨t, rfl⟩, q⟩
  have all := dv.rk I sh sz u ru
  have g1 : X.A.in1.guards = some [] := hg
  have u1 : X.A.in1.units + 63 < cLine := by show X.A.units + 1 + 63 < cLine; omega
  cases dv with
  | non => cases ru; exact PySem.P.repr_of_none (ends s.heap _ _ fun _ _ e => e)
  | bl b =>
    cases ru
    refine PySem.P.repr_of_bool ?_
    have z := ends s.heap s.toks (s.toks + 1) fun _ _ e => e
    rw [PyData.shown] at z
    exact z
  | int i =>
    obtain ⟨t, rfl⟩ := ru
    refine PySem.P.repr_of_int (by simpa [PyData.showable] using sh) ?_
    have z := ends s.heap s.toks (s.toks + 1) fun _ _ e => e
    rw [PyData.shown] at z
    exact z
  | str y =>
    obtain ⟨t, rfl⟩ := ru
    refine PySem.P.repr_of_str ?_ (by simpa only [PyData.shown] using sz)
    have z := ends s.heap s.toks (s.toks + 1) fun _ _ e => e
    rw [PyData.shown] at z
    exact z
  | @lst a ys ds e n l f =>
    cases ru
    obtain ⟨_, its, m, rv, ho⟩ := I.hok _ _ e
    have sh' := sh
    have sz' := sz
    rw [PyData.showable] at sh'
    rw [PyData.shown] at sz'
    have parts : RkAll X.prog X.w s.heap its ds := rk_all (fun i x d h1 h2 u q => (f i x d h1 h2).rk I (showableAll_mem sh' (List.mem_of_getElem? h2)) (Nat.le_trans (listText_mem_le (shownAll_mem (List.mem_of_getElem? h2))) sz') u q) l rv
    obtain ⟨⟨as, rs⟩, bs, mb, k⟩ := parts
    have rd : Reads s.heap (.ref a) (.list ds) (a :: as) := .list ho rfl rfl rs
    have deep : PyData.depth (.list ds) = PyData.depthAll ds + 1 := by rw [PyData.depth]
    refine call_repr_slot (by omega) ⟨_, ho, rfl⟩ PySem.F.slot_list_repr.toG ?_
    rw [PyData.shown] at ends
    cases its with
    | nil =>
      cases rs
      rw [PyData.shownAll, listText_nil] at ends
      exact call_list_repr_empty ⟨_, ho, rfl⟩ ho rfl ⟨_, _, rfl, ends s.heap _ _ fun _ _ e => e⟩
    | cons y its =>
      exact call_list_reprK ho rfl rfl (not_mem_of_deeper rd (by omega) mb) (by simpa using k.length_eq) (fun i y z => k.item i y (by simpa using z)) g1 (fun b _ => Clear.nil b) (by omega) (fun _ _ e => e) (fun h' t tk kk => ⟨_, _, rfl, ends h' t tk kk⟩) sz'
  | @tup a ys ds e n l f =>
    cases ru
    obtain ⟨_, its, rv, o, ho, hc, m, hd⟩ := I.hok _ _ e
    have sh' := sh
    have sz' := sz
    rw [PyData.showable] at sh'
    rw [PyData.shown] at sz'
    have parts : RkAll X.prog X.w s.heap its ds := rk_all (fun i x d h1 h2 u q => (f i x d h1 h2).rk I (showableAll_mem sh' (List.mem_of_getElem? h2)) (Nat.le_trans (tupleText_mem_le (shownAll_mem (List.mem_of_getElem? h2))) sz') u q) l rv
    obtain ⟨⟨as, rs⟩, bs, mb, k⟩ := parts
    have rd : Reads s.heap (.ref a) (.tuple ds) as := .tuple ho hc hd rs
    have deep : PyData.depth (.tuple ds) = PyData.depthAll ds + 1 := by rw [PyData.depth]
    refine call_repr_slot (by omega) ⟨_, ho, hc⟩ PySem.F.slot_tuple_repr ?_
    rw [PyData.shown] at ends
    exact call_tuple_reprK ho hc hd (not_mem_of_deeper rd (by omega) mb) k g1 (fun b _ => Clear.nil b) (by omega) (fun _ _ e => e) (fun h' t tk kk => ⟨_, _, rfl, ends h' t tk kk⟩) sz'
  | @dct a kvs e n p =>
    cases ru
    obtain ⟨⟨as, rd⟩, _⟩ := all
    obtain ⟨_, hm, vs, rel, o, es, ep, e1, ex, dt, _, prs, _⟩ := (show ObjOk X.prog X.w H s.heap a (.dK kvs) from I.hok _ _ e)
    have deep : (PyData.dict (kvs.map fun p => (kD p.1, vD p.2))).depth ≤ 60 := dp
    have nos : sysModules ∉ as := by
      cases rd with
      | dict h1 h2 h3 h4 h5 =>
        have flatAll : ∀ {us : List Value} {ds : List PyData} {cs : List Addr}, ReadsAll s.heap us ds cs → (∀ d ∈ ds, d.depth = 0) → cs = [] := by
          intro us
          induction us with
          | nil => intro ds cs q _; cases q; rfl
          | cons u us ih =>
            intro ds cs q z
            cases q with
            | cons q1 q2 =>
              have z1 := z _ List.mem_cons_self
              have z2 := ih q2 fun d m => z d (List.mem_cons_of_mem _ m)
              subst z2
              cases q1 with
              | list => rw [PyData.depth] at z1; omega
              | tuple => rw [PyData.depth] at z1; omega
              | dict => rw [PyData.depth] at z1; omega
              | _ => rfl
        have k1 := flatAll h4 (fun d m => by
          obtain ⟨q, hq, rfl⟩ := List.mem_map.mp m
          obtain ⟨r, hr, rfl⟩ := List.mem_map.mp hq
          obtain ⟨kk, vv⟩ := r
          cases kk <;> simp only [kD, PyData.depth])
        have k2 := flatAll h5 (fun d m => by
          obtain ⟨q, hq, rfl⟩ := List.mem_map.mp m
          obtain ⟨r, hr, rfl⟩ := List.mem_map.mp hq
          obtain ⟨kk, vv⟩ := r
          cases vv <;> simp only [vD, PyData.depth])
        subst k1 k2
        intro z
        rcases List.mem_cons.mp z with q | q
        · rw [← q] at hm
          exact Bool.noConfusion ((beq_self_eq_true sysModules).symm.trans hm)
        · exact nomatch q
    exact repr_of_reads' rd sh (fun _ => nos) hg (by omega) (fun _ _ e => e) (fun h' t tk kk => ends h' t tk kk) sz
end
end Gd
namespace Lw
open PySem PySem.Spec PyProof.Rows L2 Gd
def topS (i : Nat) : Stmt := PySem.Challenge.pw_leastplaces_k04_claims_of_rows.main.body.getD i (.Pass ⟨0, 0, 0, 0⟩)
abbrev sStream : Stmt := topS 15
abbrev sDraw : Stmt := topS 16
theorem scDraw : FnScope ["_law_stream_here", "_law_many", "_law_rest", "_law_turn", "_law_cell", "_law_mixed"] ["_law_stream_here", "_law_many"] (defScope sDraw) := ⟨rfl, rfl, rfl, by decide +kernel, rfl, by decide +kernel, by decide +kernel⟩

/-! ### the stream -/
/-- what the draws may change -/
abbrev Av (s a : Addr) : Addr → Prop := fun x => x = s ∨ x = a
structure Sm (H : Hp) (s a b : Addr) (n : Nat) : Prop where
  ex : ∃ (t : Int) (bigs cells : List Int), H s = some (.lst [.ref a, .ref b, .int t]) ∧ H a = some (.lst (bigs.map V.int)) ∧ H b = some (.lst (cells.map V.int)) ∧ (∀ c ∈ bigs, 0 ≤ c) ∧ (∀ c ∈ cells, 0 ≤ c) ∧ cells ≠ [] ∧
    cells.length ≤ 64 ∧ bigs.length ≤ 63 ∧ 0 ≤ t ∧ t ≤ n
  sa : s ≠ a
  sb : s ≠ b
  ab : a ≠ b
theorem Sm.keep {H H' : Hp} {s a b : Addr} {n : Nat} (x : Sm H s a b n) (k : Same H H') : Sm H' s a b n := by
  obtain ⟨⟨t, bigs, cells, h1, h2, h3, r⟩, p1, p2, p3⟩ := x
  exact ⟨⟨t, bigs, cells, k _ _ h1, k _ _ h2, k _ _ h3, r⟩, p1, p2, p3⟩
theorem Sm.mono {H : Hp} {s a b : Addr} {n m : Nat} (x : Sm H s a b n) (k : n ≤ m) : Sm H s a b m := by
  obtain ⟨⟨t, bigs, cells, h1, h2, h3, h4, h5, h6, h7, h8, h9, h10⟩, p1, p2, p3⟩ := x
  exact ⟨⟨t, bigs, cells, h1, h2, h3, h4, h5, h6, h7, h8, h9, by omega⟩, p1, p2, p3⟩
theorem same_upd {H : Hp} {p : Addr} {o : HO} (h : H p = none) : Same H (upd H p o) := fun b x e => by
  rw [upd_ne (ne_of_none e h)]
  exact e
theorem dpAll_ints {K : PySem.W.Frag} {H : Hp} : ∀ ns : List Int, DpAll K H (ns.map V.int) (ns.map PyData.int)
  | [] => .nil
  | n :: r => .cons (.int n) (dpAll_ints r)
theorem eqv_nil (ns : List Int) : PyData.eqv (.list (ns.map PyData.int)) (.list []) = ns.isEmpty := by
  cases ns <;> simp [PyData.eqv, PyData.eqvAll]

theorem ixN_cons {x : Int} {r : List Int} : ixN ((x :: r).map V.int).length 0 = some 0 := by
  unfold ixN
  rw [if_pos (Int.le_refl 0), if_pos (by rw [List.length_map, List.length_cons]; omega)]
  rfl
def spDraw : Sp := fun vs H Q _ => ∃ (s a b : Addr) (n : Nat) (m : Int), vs = [.ref s, .int m] ∧ Sm H s a b n ∧ n < 1000000 ∧ 0 < m ∧ m ≤ 1000000000 ∧
  ∀ H' r, Kp (Av s a) H H' → Sm H' s a b (n + 1) → 0 ≤ r → r < m → Q (.int r) H'
section
variable {P : Program} {w : World} {K : PySem.W.Frag} {mg : Str → Option Value} {base : Heap}
theorem ok_draw {f : Addr} {fd : FuncData} {k : Nat} (F : Fun K "_law_draw" "_law_draw" sDraw f fd) (ml : mg "len" = none) : FnOk P w K mg base CX0 (k + 1) f fd ["_law_stream_here", "_law_many"] spDraw := by
  refine F.ok scDraw (fun vs H Q E h => ?_) (fun cdv A outer st H vs Q E hr h => ?_)
  · obtain ⟨s, a, b, n, m, rfl, _⟩ := h
    rfl
  · obtain ⟨s, a, b, n, m, rfl, sm, hn, m0, m1, q⟩ := h
    have mIx : ∀ {i : Nat}, PlainIx (.Constant (.int 0) 0 ⟨i, i, i, i⟩) := fun _ _ => rfl
    refine ⟨_, pss_cons (ps_while PassesOwn.never (pt_cmpR (op_neD hr.units) (pe_ix ix_list (pv 0) pe_int (fun _ _ => rfl)) (pe_lst pa_nil) (nomark _))
        (pss_cons (ps_set (i := 2) scDraw.nd rfl (.inl rfl) (pe_ix ix_list (pe_ix ix_list (pv 0) pe_int (fun _ _ => rfl)) pe_int (fun _ _ => rfl)))
        (pss_cons (ps_if (pt_cmpR op_gt (pv 2) pe_int (nomark _))
          (pss_cons (ps_asg (pe_op op_fdiv (pv 2) (pv 1)) (pg_sub (pe_ix ix_list (pv 0) pe_int (fun _ _ => rfl)) pe_int set_list))
            (pss_one (ps_ret (pe_op op_mod (pv 2) (pv 1))))) pss_nil)
        (pss_one (ps_expr (pe_bm PySem.F.plainAttrs_list PySem.F.slot_list_pop PySem.F.type_list_pop mt_popAt (pe_ix ix_list (pv 0) pe_int (fun _ _ => rfl)) (pa_cons pe_int pa_nil)))))))
      (pss_cons (ps_set (i := 3) scDraw.nd rfl (.inl rfl) (pe_op op_add (pe_ix ix_list (pv 0) pe_int (fun _ _ => rfl)) pe_int))
      (pss_cons (ps_asg (pv 3) (pg_sub (pv 0) pe_int set_list))
      (pss_cons (ps_set (i := 4) scDraw.nd rfl (.inl rfl) (pe_op op_mod (pe_ix ix_list (pe_ix ix_list (pv 0) pe_int (fun _ _ => rfl))
          (pe_op op_mod (pv 3) (pe_callB call_len_seq (by rfl) ml PySem.boot_len (pa_cons (pe_ix ix_list (pv 0) pe_int (fun _ _ => rfl)) pa_nil))) (fun _ _ => rfl)) pe_int))
      (pss_cons (ps_set (i := 5) scDraw.nd rfl (.inl rfl) (pe_op op_mod (pe_op op_add (pe_op op_add (pe_op op_mul (pv 4) (pe_op op_add pe_int (pe_op op_mul pe_int (pv 3)))) (pe_op op_mul (pe_op op_mul pe_int (pv 3)) (pv 3))) pe_int) pe_int))
      (pss_one (ps_ret (pe_op op_mod (pe_op op_fdiv (pe_op op_mod (pe_op op_mul (pv 5) (pv 5)) pe_int) pe_int) (pv 1)))))))), ?_⟩
    refine ⟨fun c σ H1 => Kp (Av s a) H H1 ∧ Sm H1 s a b n ∧ (∃ y2, σ = [some (.ref s), some (.int m), y2, none, none, none]) ∧ ∃ bigs : List Int, H1 a = some (.lst (bigs.map V.int)) ∧ bigs.length = c, ?_, fun c σ H1 hw => ?_⟩
    · obtain ⟨⟨t, bigs, cells, hS, hA, _⟩, _⟩ := id sm
      exact ⟨_, Kp.refl _, sm, ⟨none, rfl⟩, bigs, hA, rfl⟩
    obtain ⟨kp, ⟨⟨t, bigs, cells, hS, hA, hB, bp, cp, cn, cl, bl, t0, tn⟩, sa, sb, ab⟩, ⟨y2, rfl⟩, bigs', hA', hc⟩ := hw
    have eb : bigs' = bigs := by
      have z := hA'.symm.trans hA
      have z2 : bigs'.map V.int = bigs.map V.int := HO.lst.inj (Option.some.inj z)
      exact (List.map_inj_right (fun x y e => V.int.inj e)).mp z2
    subst eb
    -- while _law_stream_here[0] != []
    refine ⟨.ref s, rfl, s, _, 0, .ref a, rfl, rfl, .inl (.inl hS), rfl, Nat.zero_le _, fun p np => ?_⟩
    have s1 : Same H1 (upd H1 p (.lst [])) := same_upd np
    refine ⟨.list (bigs'.map PyData.int), .list [], .lst (.inl (.inl (s1 _ _ hA))) (dpAll_ints _), .lst (.inl (.inl upd_same)) .nil, PySem.W.ke_shaped_ints _, by decide +kernel, _, rfl, ?_⟩
    have k1 : Kp (Av s a) H (upd H1 p (.lst [])) := kp.trans (Kp.of_same s1)
    rw [eqv_nil]
    cases bigs' with
    | cons x r =>
      refine iteT ?_
      have x0 : 0 ≤ x := bp x List.mem_cons_self
      refine ⟨fun σ' H' => Kp (Av s a) H H' ∧ Sm H' s a b n ∧ (∃ y2, σ' = [some (.ref s), some (.int m), y2, none, none, none]) ∧ H' a = some (.lst (r.map V.int)), fun σ' H' z => ⟨r.length, by rw [← hc]; exact Nat.lt_succ_self _, z.1, z.2.1, z.2.2.1, r, z.2.2.2, rfl⟩, ?_⟩
      -- _law_rest = _law_stream_here[0][0]
      refine ⟨.ref s, rfl, s, _, 0, .ref a, rfl, rfl, .inl (.inl (s1 _ _ hS)), rfl, a, _, 0, .int x, rfl, rfl, .inl (.inl (s1 _ _ hA)), at_of (j := 0) rfl rfl, ?_⟩
      -- if _law_rest > 0
      refine ⟨.int x, rfl, x, 0, rfl, rfl, _, rfl, ite2 (fun e => ?_) (fun e => ?_)⟩
      · have e' : 0 < x := of_decide_eq_true e
        refine ⟨.int x, rfl, .int m, rfl, x, m, rfl, rfl, ⟨m0, by omega⟩, .ref s, rfl, s, _, 0, .ref a, rfl, rfl, .inl (.inl (s1 _ _ hS)), rfl, a, _, 0, 0, rfl, rfl, s1 _ _ hA, ixN_cons, ?_⟩
        refine ⟨.int x, rfl, .int m, rfl, x, m, rfl, rfl, m0, ?_⟩
        refine q _ _ (fun z o hz nz => ?_) ?_ (Int.emod_nonneg _ (by omega)) (Int.emod_lt_of_pos _ m0)
        · rw [upd_ne (fun e => nz (.inr e))]
          exact k1 z o hz nz
        · refine ⟨⟨t, (x / m) :: r, cells, ?_, ?_, ?_, ?_, cp, cn, cl, bl, t0, by omega⟩, sa, sb, ab⟩
          · rw [upd_ne sa]
            exact s1 _ _ hS
          · rw [upd_same]
            rfl
          · rw [upd_ne (Ne.symm ab)]
            exact s1 _ _ hB
          · intro c hc
            rcases List.mem_cons.mp hc with rfl | hc
            · exact Int.ediv_nonneg x0 (by omega)
            · exact bp c (List.mem_cons_of_mem _ hc)
      · -- _law_stream_here[0].pop(0)
        refine ⟨.ref s, rfl, s, _, 0, .ref a, rfl, rfl, .inl (.inl (s1 _ _ hS)), rfl, .inl ⟨rfl, _, .inl (.inl (s1 _ _ hA))⟩, a, _, 0, 0, .int x, rfl, rfl, s1 _ _ hA, by decide, by decide, (ixN_seq ixN_cons).1, rfl, ?_⟩
        refine ⟨fun z o hz nz => ?_, ⟨⟨t, r, cells, ?_, ?_, ?_, fun c hc => bp c (List.mem_cons_of_mem _ hc), cp, cn, cl, Nat.le_of_succ_le bl, t0, tn⟩, sa, sb, ab⟩, ⟨_, rfl⟩, ?_⟩
        · rw [upd_ne (fun e => nz (.inr e))]
          exact k1 z o hz nz
        · rw [upd_ne sa]
          exact s1 _ _ hS
        · rw [upd_same]
          rfl
        · rw [upd_ne (Ne.symm ab)]
          exact s1 _ _ hB
        · rw [upd_same]
          rfl
    | nil =>
      refine iteF ?_
      -- _law_turn = _law_stream_here[2] + 1
      refine ⟨.ref s, rfl, s, _, 2, .int t, rfl, rfl, .inl (.inl (s1 _ _ hS)), rfl, t, 1, rfl, rfl, ?_⟩
      -- _law_stream_here[2] = _law_turn
      refine ⟨.int (t + 1), rfl, .ref s, rfl, s, _, 2, 2, rfl, rfl, s1 _ _ hS, rfl, ?_⟩
      have gS : (upd (upd H1 p (.lst [])) s (.lst [.ref a, .ref b, .int (t + 1)])) s = some (.lst [.ref a, .ref b, .int (t + 1)]) := upd_same
      have gB : (upd (upd H1 p (.lst [])) s (.lst [.ref a, .ref b, .int (t + 1)])) b = some (.lst (cells.map V.int)) := by
        rw [upd_ne (Ne.symm sb)]
        exact s1 _ _ hB
      have gA : (upd (upd H1 p (.lst [])) s (.lst [.ref a, .ref b, .int (t + 1)])) a = some (.lst (([] : List Int).map V.int)) := by
        rw [upd_ne (Ne.symm sa)]
        exact s1 _ _ hA
      have lpos : 0 < cells.length := List.length_pos_iff.mpr cn
      have ml1 : (0 : Int) < ((cells.map V.int).length : Int) := by rw [List.length_map]; omega
      obtain ⟨j, hj, hj2⟩ : ∃ j : Nat, (t + 1) % ((cells.map V.int).length : Int) = (j : Int) ∧ j < cells.length := by
        refine ⟨((t + 1) % ((cells.map V.int).length : Int)).toNat, ?_, ?_⟩
        · rw [Int.toNat_of_nonneg (Int.emod_nonneg _ (by omega))]
        · have z := Int.emod_lt_of_pos (t + 1) ml1
          rw [List.length_map] at z ⊢
          have z0 : 0 ≤ (t + 1) % (cells.length : Int) := Int.emod_nonneg _ (by omega)
          omega
      have gj : (cells.map V.int)[j]? = some (.int cells[j]) := by
        rw [List.getElem?_map, List.getElem?_eq_getElem hj2]
        rfl
      -- _law_cell
      refine ⟨.ref s, rfl, s, _, 1, .ref b, rfl, rfl, .inl (.inl gS), rfl, .int (t + 1), rfl, .ref s, rfl, s, _, 1, .ref b, rfl, rfl, .inl (.inl gS), rfl, b, _, rfl, .inl (.inl (.inl gB)), t + 1, _, rfl, rfl, ml1,
        b, _, _, .int cells[j], rfl, rfl, .inl (.inl gB), at_of hj gj, cells[j], 2147483587, rfl, rfl, by show (0 : Int) < 2147483587; decide, ?_⟩
      have c0 : 0 ≤ cells[j] % 2147483587 := Int.emod_nonneg _ (by decide)
      have c1 : cells[j] % 2147483587 < 2147483587 := Int.emod_lt_of_pos _ (by decide)
      -- _law_mixed
      refine ⟨_, rfl, _, rfl, 48271, t + 1, rfl, rfl, .inl ⟨by decide, by decide⟩, 40692, _, rfl, rfl, _, _, rfl, rfl, .inl ⟨by omega, by omega⟩, _, rfl, 69621, t + 1, rfl, rfl, .inl ⟨by decide, by decide⟩, _, rfl, _, t + 1, rfl, rfl, .inr ⟨by omega, by omega⟩, _, _, rfl, rfl, _, 23, rfl, rfl, _, 2147483647, rfl, rfl, by show (0 : Int) < 2147483647; decide, ?_⟩
      refine ⟨_, rfl, _, rfl, _, _, rfl, rfl, .inl ⟨?_, ?_⟩, _, 2147483629, rfl, rfl, by show (0 : Int) < 2147483629; decide, _, 16, rfl, rfl, ⟨by decide, by decide⟩, .int m, rfl, _, m, rfl, rfl, m0, ?_⟩
      · exact Int.lt_of_lt_of_le (by decide) (Int.emod_nonneg _ (by decide))
      · exact Int.lt_trans (Int.emod_lt_of_pos _ (by decide)) (by decide)
      · refine q _ _ (fun z o hz nz => ?_) ?_ (Int.emod_nonneg _ (by omega)) (Int.emod_lt_of_pos _ m0)
        · show (upd (upd H1 p (.lst [])) s (.lst [.ref a, .ref b, .int (t + 1)])) z = some o
          rw [upd_ne (fun e => nz (.inl e))]
          exact k1 z o hz nz
        · exact ⟨⟨t + 1, [], cells, gS, gA, gB, bp, cp, cn, cl, bl, by omega, by omega⟩, sa, sb, ab⟩
end
end Lw
namespace Lw
open PySem PySem.Spec PyProof.Rows L2 Gd
theorem scStream : FnScope ["_law_script", "_law_cells", "_law_cell"] ["_law_script"] (defScope sStream) := ⟨rfl, rfl, rfl, by decide +kernel, rfl, by decide +kernel, by decide +kernel⟩
def absI (i : Int) : Int := if i < 0 then -i else i
theorem absI_nn (i : Int) : 0 ≤ absI i := by unfold absI; split <;> omega
theorem getm {α : Type} {ns : List Int} {f : Int → α} {i : Nat} {x : α} (h : (ns.map f)[i]? = some x) : ∃ n, ns[i]? = some n ∧ x = f n := by
  rw [List.getElem?_map] at h
  cases e : ns[i]? with
  | none => rw [e] at h; cases h
  | some n => rw [e] at h; exact ⟨n, rfl, (Option.some.inj h).symm⟩
theorem small_of {n : Nat} (h : n ≤ 100000) : n < sizeLine := Nat.lt_of_le_of_lt h (by decide)
def spStream (K : PySem.W.Frag) : Sp := fun vs H Q _ => ∃ (sc : Addr) (ns : List Int), vs = [.ref sc] ∧ SqL K H sc (ns.map V.int) ∧ ns.length ≤ 63 ∧
  ∀ H' s a b, Same H H' → H s = none → H a = none → H b = none → Sm H' s a b 0 → Q (.ref s) H'
section
variable {P : Program} {w : World} {K : PySem.W.Frag} {mg : Str → Option Value} {base : Heap}
theorem ok_stream {f : Addr} {fd : FuncData} {k : Nat} (F : Fun K "_law_stream" "_law_stream" sStream f fd) (ml : mg "len" = none) (ma : mg "abs" = none) : FnOk P w K mg base CX0 (k + 1) f fd ["_law_script"] (spStream K) := by
  refine F.ok scStream (fun vs H Q E h => ?_) (fun cdv A outer st H vs Q E hr h => ?_)
  · obtain ⟨s, ns, rfl, _⟩ := h
    rfl
  · obtain ⟨sc, ns, rfl, hS, hl, q⟩ := h
    refine ⟨_, pss_cons (ps_setLc (i := 1) (own := [("_law_cell", 2)]) (g := gName 2) (tt := tYes) rfl scStream.nd rfl rfl (sw_true rfl rfl rfl (by decide +kernel)) (pi_list (pv 0))
        (blkOk_by (N := ["_law_script", "_law_cells", "_law_cell"]) (sc := defScope sStream) (by decide +kernel)) (fun _ _ _ _ _ => pg_name (i := 2) scStream.nd rfl (Or.inl rfl)) (fun _ _ _ _ _ => pts_nil)
        (fun _ _ _ _ _ => pe_callB call_abs (by rfl) ma (by decide +kernel) (pa_cons (pv 2) pa_nil)))
      (pss_one (ps_ret (pe_lst (pa_cons (pe_lc (own := [("_law_cell", 2)]) (g := gName 2) (by rfl) scStream.nd (pi_list (pv 1)) (blkOk_by (N := ["_law_script", "_law_cells", "_law_cell"]) (sc := defScope sStream) (by decide +kernel))
          (fun _ _ _ _ _ => pg_name (i := 2) scStream.nd rfl (Or.inl rfl)) (fun _ _ _ _ _ => pts_one (pt_cmpR op_ge (pv 2) (pe_op op_pow pe_int pe_int) (nomark _))) (fun _ _ _ _ _ => pv 2))
        (pa_cons (pe_op op_cat (pv 1) (pe_lst (pa_cons (pe_op op_add (pe_callB call_len_seq (by rfl) ml PySem.boot_len (pa_cons (pv 1) pa_nil)) pe_int) pa_nil))) (pa_cons pe_int pa_nil)))))), ?_⟩
    -- _law_cells
    refine ⟨.ref sc, rfl, sc, rfl, ⟨_, hS⟩, fun D nD => lc_list (xs := ns.map V.int) (fun i H1 => Same H H1 ∧ H1 D = some (.lst ((ns.take i).map fun n => V.int (absI n)))) ⟨same_upd nD, upd_same⟩ (fun i H1 _ p => p.1.seq hS) (fun i x H1 hx p => ?_) (fun H1 p => ?_)⟩
    · obtain ⟨n, hn, rfl⟩ := getm hx
      obtain ⟨sm, hD⟩ := p
      refine ⟨rfl, .int n, rfl, n, rfl, _, hD, ?_, fun b o e => ?_, ?_⟩
      · rw [List.length_map, List.length_take]
        exact small_of (by omega)
      · rw [upd_ne (ne_of_none e nD)]
        exact sm _ _ e
      · rw [upd_same, List.take_add_one, hn, List.map_append]
        rfl
    · obtain ⟨sm1, hD1⟩ := p
      rw [List.length_map, List.take_length] at hD1
      have hD1' : H1 D = some (.lst ((ns.map absI).map V.int)) := by
        rw [hD1, List.map_map]
        rfl
      -- the large cells
      refine ⟨.ref D, rfl, D, rfl, ⟨_, .inl (.inl hD1')⟩, fun A1 nA => lc_list (xs := (ns.map absI).map V.int) (fun i H2 => Same H1 H2 ∧ ∃ bs : List Int, H2 A1 = some (.lst (bs.map V.int)) ∧ bs.length ≤ i ∧ ∀ c ∈ bs, 0 ≤ c) ⟨same_upd nA, [], upd_same, Nat.le_refl _, fun _ z => nomatch z⟩ (fun i H2 _ p => .inl (.inl (p.1 _ _ hD1'))) (fun i x H2 hx p => ?_) (fun H2 p => ?_)⟩
      · obtain ⟨m, hm, rfl⟩ := getm hx
        obtain ⟨n, hn, rfl⟩ := getm hm
        obtain ⟨sm2, bs, hA, lb, pb⟩ := p
        refine ⟨rfl, .int (absI n), rfl, 10, 18, rfl, rfl, ⟨by decide, by decide, by decide⟩, absI n, _, rfl, rfl, _, rfl, ite2 (fun e => ?_) (fun e => ?_)⟩
        · have hi : i < ns.length := (List.getElem?_eq_some_iff.mp hn).1
          refine ⟨.int (absI n), rfl, _, hA, by rw [List.length_map]; exact small_of (by omega), fun b o e => ?_, bs ++ [absI n], ?_, ?_, fun c hc => ?_⟩
          · rw [upd_ne (ne_of_none e nA)]
            exact sm2 _ _ e
          · rw [upd_same, List.map_append]
            rfl
          · rw [List.length_append]
            exact Nat.add_le_add_right lb 1
          · rcases List.mem_append.mp hc with hc | hc
            · exact pb c hc
            · rw [List.mem_singleton.mp hc]
              exact absI_nn n
        · exact ⟨sm2, bs, hA, by omega, pb⟩
      · obtain ⟨sm2, bs, hA, lb, pb⟩ := p
        have lb' : bs.length ≤ 63 := by
          rw [List.length_map, List.length_map] at lb
          omega
        have hD2 := sm2 _ _ hD1'
        -- _law_cells + [len(_law_cells) + 19]
        refine ⟨.ref D, rfl, .ref D, rfl, D, _, rfl, .inl (.inl (.inl hD2)), _, 19, rfl, rfl, by show 1 ≤ sizeLine; decide, fun p1 n1 => ?_⟩
        have s3 := same_upd (o := .lst [.int (((ns.map absI).map V.int).length + 19)]) n1
        refine ⟨D, p1, _, _, rfl, rfl, s3 _ _ hD2, upd_same, ?_, fun B nB => ?_⟩
        · rw [List.length_map, List.length_map]
          exact Nat.le_of_lt (small_of (by show ns.length + 1 ≤ 100000; omega))
        · have s4 := same_upd (o := .lst ((ns.map absI).map V.int ++ [.int (((ns.map absI).map V.int).length + 19)])) nB
          refine ⟨by show 3 ≤ sizeLine; decide, fun s nS => ?_⟩
          have s5 := same_upd (o := .lst [.ref A1, .ref B, .int 0]) nS
          have all := sm1.trans (sm2.trans (s3.trans (s4.trans s5)))
          have g3 := s3 _ _ hA
          have g4 := s4 _ _ g3
          have gB : (upd (upd (upd H2 p1 (.lst [.int (((ns.map absI).map V.int).length + 19)])) B (.lst ((ns.map absI).map V.int ++ [.int (((ns.map absI).map V.int).length + 19)]))) s (.lst [.ref A1, .ref B, .int 0])) B = _ := s5 _ _ upd_same
          refine q _ s A1 B all ((sm1.trans (sm2.trans (s3.trans s4))).free nS) (sm1.free nA) ((sm1.trans (sm2.trans s3)).free nB) ⟨⟨0, bs, ns.map absI ++ [((ns.length : Int) + 19)], upd_same, s5 _ _ g4, ?_, pb, fun c hc => ?_, by simp, ?_, lb', Int.le_refl _, Int.le_refl _⟩, ?_, ?_, ?_⟩
          · rw [gB, List.map_append, List.length_map, List.length_map]
            rfl
          · rcases List.mem_append.mp hc with hc | hc
            · obtain ⟨n, _, rfl⟩ := List.mem_map.mp hc
              exact absI_nn n
            · rw [List.mem_singleton.mp hc]
              omega
          · rw [List.length_append, List.length_map]
            show ns.length + 1 ≤ 64
            omega
          · exact fun e => (ne_of_none g4 nS) e.symm
          · exact fun e => (ne_of_none (H := upd (upd H2 p1 _) B _) upd_same nS) e.symm
          · exact ne_of_none g3 nB
end
end Lw
/-! xs[::k] of a list, k one of 1 and -1 and not written; t[::-1] of a tuple; t == () -/
namespace Gd
open PySem PySem.Spec PyProof.Rows L2
theorem pick_all (its : Array Value) : slicePick its none none (some 1) = its := by
  have hb : sliceBounds none none (some 1) its.size = (0, (its.size : Int), 1) := by simp [sliceBounds]
  have hr : sliceRange 0 (its.size : Int) 1 = List.range its.size := by
    unfold sliceRange
    by_cases h : (0 : Int) < its.size
    · have e : ((its.size : Int) - 0 + 1 - 1) / 1 = its.size := by rw [Int.ediv_one]; omega
      simp only [show (1 : Int) > 0 by decide, if_true, h, e, Int.toNat_natCast]
      refine (List.map_congr_left (g := id) fun k _ => ?_).trans (List.map_id _)
      show (0 + 1 * (k : Int)).toNat = k
      omega
    · have e : its.size = 0 := by omega
      rw [e]
      simp
  unfold slicePick
  rw [hb]
  dsimp only
  rw [hr, PySem.W.krv_all]
section
variable {X : Cx}
/-- what xs[::k] asks -/
def tStep (K : PySem.W.Frag) (te ts : TE) : TE := fun σ H Q => te σ H fun x H1 => ts σ H1 fun y H2 => ∃ a xs k, x = .ref a ∧ SqL K H2 a xs ∧ y = .int k ∧ (k = 1 ∨ k = -1) ∧ ∀ zs p, (zs = xs ∨ zs = xs.reverse) → H2 p = none → Q (.ref p) (upd H2 p (.lst zs))
theorem pe_step {e st : Expr} {te ts : TE} {p3 pos : Pos} (he : PE X e te) (hst : PE X st ts)
    (hops : ∀ o i : Value, subscripted (.Slice none none (some st) p3) false o i = operate [o, i] (getItem o i) := by intro _ _; rfl) :
    PE X (.Subscript e (.Slice none none (some st) p3) pos) (tStep X.K te ts) := by
  refine ⟨fun pins s σ H Q I want => ?_⟩
  refine Subscript_ (thn (he.run pins s σ H _ I want) ?_)
  rintro v s1 ⟨x, H1, I1, r1, want1⟩
  refine wpAny_Slice (thn (po_none.run pins s1 σ H1 (fun o G => o = none ∧ G = H1) I1 ⟨rfl, rfl⟩) ?_)
  rintro vl s2 ⟨l, G2, I2, pl, rfl, rfl⟩
  refine thn (po_none.run pins s2 σ G2 (fun o G => o = none ∧ G = G2) I2 ⟨rfl, rfl⟩) ?_
  rintro vu s3 ⟨u, G3, I3, pu, rfl, rfl⟩
  rw [evalPart_some]
  refine thn (hst.run pins s3 σ G3 _ I3 want1) ?_
  rintro vs s4 ⟨y, H4, I4, ry, a, xs, k, rfl, hx, rfl, hk, want2⟩
  cases r1
  have ps : IsPart vs (some k) := by
    obtain ⟨t, rfl⟩ := ry
    exact IsPart.int _ _
  have I5 : Inv X pins σ H4 { s4 with heap := s4.heap.push { cls := .type "slice", data := .fields #[vl, vu, vs] } } := I4.kept (t' := s4.toks) fun b ob z => Heap.get?_push_of_some _ z
  obtain ⟨its, r, ht, hz⟩ := I5.list hx
  have hlen := r.length
  refine tail_any (ops := [.ref a, .ref s4.heap.objs.size]) ht.isList.typeIs (PySem.slot_list_getitem.lookup) ?_ (hops _ _)
  refine wpAny_getItem_list_slice ht.isList (Heap.IsSliceOf.new _ vl vu vs) pl pu ps (by rcases hk with rfl | rfl <;> decide) ?_ (by rw [List.size_toArray]; omega)
  rcases hk with rfl | rfl
  · rw [pick_all]
    refine ⟨.ref _, _, I5.laid (t' := s4.toks) (o := .lst xs) (fun b ob z => Heap.get?_push_of_some _ z) (Nat.le_refl _) ?_, rfl, want2 _ _ (.inl rfl) (I5.hok.fresh (Nat.le_refl _))⟩
    exact ⟨hz, _, 0, r, Heap.get?_push_size _ rfl⟩
  · rw [PySem.W.krv_pick]
    refine ⟨.ref _, _, I5.laid (t' := s4.toks) (o := .lst xs.reverse) (fun b ob z => Heap.get?_push_of_some _ z) (Nat.le_refl _) ?_, rfl, want2 _ _ (.inr rfl) (I5.hok.fresh (Nat.le_refl _))⟩
    exact ⟨by rw [List.length_reverse]; exact hz, _, 0, r.reverse, Heap.get?_push_size _ rfl⟩
end
end Gd
/-! enumerate(t), t a tuple; t == (), t any tuple -/
namespace Gd
open PySem PySem.Spec PyProof.Rows L2
theorem meets_enum1 {v : Value} {o : Obj} {Hh : Heap → Prop} (B : Begins v o Hh) : Meets (Builtin.«enumerate.__new__» ⟨[.type "enumerate", v], []⟩) (fun _ R s => Hh s.heap ∧
    R (.ok (.ret (.ref (s.heap.push o).objs.size))) { s with heap := (s.heap.push o).push { cls := .type "enumerate", data := .fields #[.none, .bool false, .ref s.heap.objs.size, rawInt 0, .none, .none] } }) :=
  .of_wp fun prog w A R s z => by
    obtain ⟨hp, g, d, tk, os⟩ := s
    obtain ⟨z1, z2⟩ := z
    have hsub := sub_enumerate
    have go : ∀ {A' : Around} {E : Value → Shared → Prop} {Q : Value → Shared → Prop}, Q (.ref hp.objs.size) ⟨hp.push o, g, d, tk, os⟩ → wpAny (model prog w) A' (pyIter v) Q E ⟨hp, g, d, tk, os⟩ := by
      intro A' E Q q
      exact B.iter prog w A' E _ Q z1 q
    wp_walk using go
    refine wpAny_stack_any fun st => wpAny_pure ?_
    split
    · rename_i c _ _ _ _ _
      cases (c == Value.type "enumerate") <;> (wp_walk using go; exact ⟨_, rfl, z2⟩)
    · wp_walk using go
      exact ⟨_, rfl, z2⟩
section
variable {prog : Program} {w : World} {A : Around} {E : Value → Shared → Prop} {s : Shared}
theorem enum1_begins {v : Value} {o : Obj} {Hh : Heap → Prop} {Q : Value → Shared → Prop} (B : Begins v o Hh) (z : Hh s.heap)
    (q : ∀ h', IsEnum h' (s.heap.objs.size + 1) s.heap.objs.size 0 .none → h'.get? s.heap.objs.size = some o → (∀ b o, s.heap.get? b = some o → h'.get? b = some o) → Q (.ref (s.heap.objs.size + 1)) { s with heap := h' }) :
    wpAny (model prog w) A (call (.type "enumerate") [v]) Q E s := by
  refine callType_new F.called_enumerate (by decide) (F.typeCall_enumerate_1 _) (F.newCall_enumerate_1 _) (fun obj => F.args_object_init_2 obj _) F.entry_enumerate_new (meets_enum1 B) ⟨z, ?_⟩
  have size1 : (s.heap.push o).objs.size = s.heap.objs.size + 1 := Heap.size_push ..
  show _ ∧ _
  rw [size1]
  have isE : IsEnum ((s.heap.push o).push { cls := .type "enumerate", data := .fields #[.none, .bool false, .ref s.heap.objs.size, rawInt 0, .none, .none] }) (s.heap.objs.size + 1) s.heap.objs.size 0 .none := by
    have y := Heap.get?_push_size (s.heap.push o) (o := { cls := .type "enumerate", data := .fields #[.none, .bool false, .ref s.heap.objs.size, rawInt 0, .none, .none] }) rfl
    rw [size1] at y
    exact y
  exact ⟨⟨_, isE, rfl⟩, q _ isE (Heap.get?_push_of_some _ (Heap.get?_push_size _ B.free)) fun b o x => Heap.get?_push_of_some _ (Heap.get?_push_of_some _ x)⟩
end
/-- the tuple at a, each item in a new pair with its place -/
def ItT (K : PySem.W.Frag) (a : Addr) : It :=
  ⟨fun i H => ∃ (xs : List V) (x : V), SqT K H a xs ∧ xs[i]? = some x, fun i H v H' => ∃ T x, v = .ref T ∧ H T = none ∧ H' = upd H T (.tup [.int (i : Nat), x]) ∧ ∀ xs, SqT K H a xs → xs[i]? = some x, fun i H => ∃ xs : List V, SqT K H a xs ∧ xs.length = i⟩
theorem turn_T {P : Program} {w : World} {K : PySem.W.Frag} {elts : List Expr} {kk : Nat} {tpos : Pos} (t e it : Addr) (hti : t ≠ it) (hei : e ≠ it) (het : e ≠ t) :
    Turn P w K (.Tuple elts kk tpos) (ItT K t) [e, it] e (fun i h => (∃ old, IsEnum h e it ((i : Nat) : Int) old) ∧ h.IsTupleIter it t i) where
  mem := by simp
  obj := by
    rintro i h ⟨⟨old, he⟩, ⟨o, ho, hc, hd⟩⟩ b hb
    rcases List.mem_cons.mp hb with z | z
    · subst z
      exact ⟨_, he, fun v q => nomatch q⟩
    · have z2 := List.mem_singleton.mp z
      subst z2
      exact ⟨o, ho, fun v q => by rw [hd] at q; cases q⟩
  keep := by
    rintro i h h' ⟨⟨old, he⟩, hi⟩ k
    exact ⟨⟨old, k e (by simp) _ he⟩, hi.at fun o q => k it (by simp) o q⟩
  item := by
    rintro X rfl rfl rfl hc i pins s σ H E I hf ⟨⟨old, he⟩, hit⟩ ⟨xs, x, hq, hx⟩
    obtain ⟨its, rv, tup, hz⟩ := I.tuple hq
    obtain ⟨u, hu, ru⟩ := rv.get hx
    have hel : e < s.heap.objs.size := Heap.lt_size he
    have hil : it < s.heap.objs.size := by
      obtain ⟨_, z, _⟩ := id hit
      exact Heap.lt_size z
    have hlt : i < its.toArray.size := by
      rw [List.size_toArray]
      exact (List.getElem?_eq_some_iff.mp hu).1
    have isT : s.heap.IsTuple t its.toArray := tup
    refine wpAny_pyNext_enum_itemD (Draws.tuple (prog := X.prog) (w := X.w) (A := X.A.in1) (show X.A.in1.handled = none from I.ok.hd hc) it t hti its.toArray) he ⟨hit, isT⟩ hlt hei (by simp [hei, het]) ?_
    rintro y h' tk hy out ⟨hit', _⟩ hT hsz hk
    have ey : y = u := by
      have z : its[i]? = some y := by simpa using hy
      rw [hu] at z
      exact (Option.some.inj z).symm
    subst ey
    refine ⟨_, rfl, wpAny_letOwnedTupleGo_enum (s := { s with heap := h', toks := tk + 1 }) out ?_⟩
    intro h2 he2 sb
    have hT2 : h2.get? s.heap.objs.size = some { cls := .type "tuple", data := .seq #[.int i tk, y] } := (sb.2 _ (Nat.ne_of_gt hel)).trans hT
    have new : ObjOk X.prog X.w (upd H s.heap.objs.size (.tup [.int (i : Nat), x])) h2 s.heap.objs.size (.tup [.int (i : Nat), x]) :=
      ⟨by show 2 ≤ sizeLine; decide, [.int i tk, y], .cons ⟨_, rfl⟩ (.cons ru .nil), ⟨_, hT2, rfl, _, rfl⟩⟩
    have old2 : ∀ b ob, b ∉ [e, it] → s.heap.get? b = some ob → h2.get? b = some ob := by
      intro b ob nb z
      have n1 : b ≠ e := fun q => nb (by simp [q])
      have n2 : b ≠ it := fun q => nb (by simp [q])
      exact (sb.2 b n1).trans (hk b ob n1 n2 z)
    have I1 : Inv X pins σ (upd H s.heap.objs.size (.tup [.int (i : Nat), x])) { s with heap := h2, toks := tk + 1 } := I.turnedNew (ch := [e, it]) old2 hf (Nat.le_refl _) new
    refine ⟨.ref s.heap.objs.size, _, I1, rfl, ⟨_, x, rfl, I.hok.fresh (Nat.le_refl _), rfl, fun ys hy => ?_⟩, ⟨⟨y, ?_⟩, hit'.at fun o z => (sb.2 it (Ne.symm hei)).trans z⟩, fun b hb => ?_⟩
    · rw [I.tuple_inj hy hq]
      exact hx
    · have e1 : ((i + 1 : Nat) : Int) = (i : Int) + 1 := by omega
      rw [e1]
      exact he2
    · have lt : b < s.heap.objs.size := by
        rcases List.mem_cons.mp hb with z | z
        · rw [z]
          exact hel
        · rw [List.mem_singleton.mp z]
          exact hil
      rw [upd_ne (Nat.ne_of_lt lt)]
      exact (hf b hb).1
  done := by
    rintro X rfl rfl rfl hc i pins s σ H E I hf ⟨⟨old, he⟩, hit⟩ ⟨xs, hq, hx⟩
    obtain ⟨its, rv, tup, hz⟩ := I.tuple hq
    obtain ⟨f0, f1, f2, f3, f4, f5⟩ := hf it (by simp)
    have isT : s.heap.IsTuple t its.toArray := tup
    have hsz : its.toArray.size = i := by
      rw [List.size_toArray, ← rv.length]
      exact hx
    refine wpAny_pyNext_enum_endD (Draws.tuple (prog := X.prog) (w := X.w) (A := X.A.in1) (show X.A.in1.handled = none from I.ok.hd hc) it t hti its.toArray) he ⟨by rw [hsz]; exact hit, isT⟩ ?_
    intro h' eb
    exact ⟨rfl, I.turned (t' := s.toks) (fun b o hb z => eb b o hb z) f0 f1 f3 f4 f5⟩
  self := by
    rintro A i s Q E ⟨⟨old, he⟩, _⟩ q
    exact wpAny_pyIter_enum he q
def iEnumT (K : PySem.W.Frag) (ta : TA) : TI := fun σ H R => ta σ H fun vs H1 => ∃ a xs, vs = [.ref a] ∧ SqT K H1 a xs ∧ R (ItT K a) H1
theorem pi_enumT {X : Cx} {e : Expr} {ta : TA} {p pos tpos : Pos} {elts : List Expr} {kk : Nat} (hg : Gl X "enumerate") (hm : X.mg "enumerate" = none) (ha : PA X [e] ta) (hs : starEach [e] X.env = [(false, eval e X.env)] := by rfl) :
    PI X (.Tuple elts kk tpos) (.Call (.Name "enumerate" p) [e] [] pos) (iEnumT X.K ta) := by
  refine ⟨fun pins s σ H R I want => ?_⟩
  refine Call_ (ld_blt I hg hm boot_enumerate (PyProof.Rows.callWith_type1 (thn (ha.run pos pins s σ H _ I want) ?_) hs rfl))
  rintro us s1 ⟨vs, H1, I1, r1, t, xs, rfl, hq, want1⟩
  obtain ⟨u, rfl, ru⟩ := vals1 r1
  cases ru
  obtain ⟨its, rv, tup, hz⟩ := I1.tuple hq
  have isT : s1.heap.IsTuple t its.toArray := tup
  have tl : t < s1.heap.objs.size := by
    obtain ⟨o, z, _⟩ := id isT
    exact Heap.lt_size z
  refine enum1_begins (begins_tuple t its.toArray) isT ?_
  intro h' he hit hk
  refine wpAny_pyIter_enum he ?_
  have I2 : Inv X pins σ H1 { s1 with heap := h' } := I1.kept (t' := s1.toks) hk
  refine ⟨s1.heap.objs.size + 1, [s1.heap.objs.size + 1, s1.heap.objs.size], _, _, H1, rfl, I2, turn_T t (s1.heap.objs.size + 1) s1.heap.objs.size (Nat.ne_of_lt tl) (Nat.succ_ne_self _) (Nat.ne_of_gt (Nat.lt_succ_of_lt tl)), ⟨⟨.none, he⟩, ⟨_, hit, rfl, rfl⟩⟩, fun b hb => ?_, want1⟩
  have le : s1.heap.objs.size ≤ b := by
    rcases List.mem_cons.mp hb with z | z
    · rw [z]
      exact Nat.le_add_right _ _
    · rw [List.mem_singleton.mp z]
      exact Nat.le_refl _
  exact I1.fpOk le (I1.hok.fresh le)
section
variable {X : Cx}
/-- t == (), t any tuple -/
theorem op_eqNil (hu : X.A.units < cLine) : OpR X (compareOp .Eq) (fun x y H Q => ∃ a b xs, x = .ref a ∧ y = .ref b ∧ SqT X.K H a xs ∧ SqT X.K H b [] ∧ Q (.bl xs.isEmpty) H) := by
  intro pins s σ H x y v u Q I rx ry want
  obtain ⟨a, b, xs, rfl, rfl, ha, hb, q⟩ := want
  cases rx
  cases ry
  obtain ⟨its, rv, t1, _⟩ := I.tuple ha
  obtain ⟨its2, rv2, t2, _⟩ := I.tuple hb
  cases rv2
  have i1 : s.heap.IsTuple a its.toArray := t1
  have i2 : s.heap.IsTuple b ([] : List Value).toArray := t2
  have rc := PySem.SeqAt.RcAt.tuples (A := X.A) (e := fun _ => true) i1 i2 hu (fun j _ h2 => absurd h2 (by simp))
  refine rc X.prog X.w X.xe _ ⟨.bl xs.isEmpty, H, I, ?_, q⟩
  cases rv with
  | nil => rfl
  | cons _ _ => rfl
end
end Gd
/-! t[::-1] of a tuple -/
namespace Gd
open PySem PySem.Spec PyProof.Rows L2
section
variable {prog : Program} {w : World} {A : Around} {E : Value → Shared → Prop} {s : Shared}
theorem applied_back {sl : Addr} {vl vu : Value} {tk : Tok} {n : Nat} {Q : Int × Int × Nat → Shared → Prop} (hs : s.heap.IsSliceOf sl vl vu (.int (-1) tk)) (pl : IsPart vl none) (pu : IsPart vu none)
    (q : Q ((n : Int) - 1, -1, n) s) : wpAny (model prog w) A (Builtin.Slice.sliceApplied (.ref sl) (pure (n : Int))) Q E s := by
  obtain ⟨o, ho, hc, hd⟩ := id hs
  unfold Builtin.Slice.sliceApplied Builtin.Slice.sliceFields
  refine wpAny_bind (wpAny_bind (wpAny_field ho hd (x := vl) rfl ?_))
  refine wpAny_bind (wpAny_field ho hd (x := vu) rfl ?_)
  refine wpAny_bind (wpAny_field ho hd (x := .int (-1) tk) rfl (wpAny_pure ?_))
  refine wpAny_bind (HT.slicePart_ (IsPart.int (-1) tk) ?_)
  show wpAny _ _ (if ((-1 : Int) == 0) = true then _ else _) _ _ s
  rw [if_neg (by decide)]
  refine wpAny_bind (HT.slicePart_ pl ?_)
  refine wpAny_bind (HT.slicePart_ pu ?_)
  refine wpAny_bind (wpAny_pure ?_)
  have adj : Builtin.Slice.sliceAdjust none none (-1) (n : Int) = ((n : Int) - 1, -1) := by
    unfold Builtin.Slice.sliceAdjust
    simp
  have plc : Builtin.Slice.slicePlaces ((n : Int) - 1) (-1) (-1) = n := by
    unfold Builtin.Slice.slicePlaces
    have z1 : ¬ ((-1 : Int) > 0) := by decide
    simp only [z1, if_false, show (- -1 : Int) = 1 by decide, Int.ediv_one]
    split <;> omega
  show wpAny _ _ (match Builtin.Slice.sliceAdjust none none (-1) (n : Int) with | (lo, hi) => pure (lo, (-1 : Int), Builtin.Slice.slicePlaces lo hi (-1))) _ _ s
  rw [adj]
  show wpAny _ _ (pure ((n : Int) - 1, (-1 : Int), Builtin.Slice.slicePlaces ((n : Int) - 1) (-1) (-1))) _ _ s
  rw [plc]
  exact wpAny_pure q
theorem pick_back (xs : Array Value) : ((List.range xs.size).filterMap fun (m : Nat) => xs[(((xs.size : Nat) : Int) - 1 + (m : Int) * (-1)).toNat]?).toArray = xs.toList.reverse.toArray := by
  congr 1
  have e : (List.range xs.size).filterMap (fun (m : Nat) => xs[(((xs.size : Nat) : Int) - 1 + (m : Int) * (-1)).toNat]?) = ((List.range xs.size).map (fun k => xs.size - 1 - k)).filterMap (xs[·]?) := by
    rw [List.filterMap_map]
    congr 1
    funext m
    show xs[_]? = xs[_]?
    congr 1
    dsimp only
    omega
  rw [e, PySem.W.krv_range, List.filterMap_reverse, PySem.W.krv_all]
theorem getItem_back {t sl : Addr} {items : Array Value} {vl vu : Value} {tk : Tok} {Q : Value → Shared → Prop} (ht : IsTup s.heap t items) (hs : s.heap.IsSliceOf sl vl vu (.int (-1) tk)) (pl : IsPart vl none) (pu : IsPart vu none)
    (q : Q (.ref s.heap.objs.size) { s with heap := s.heap.push { cls := .type "tuple", data := .seq items.toList.reverse.toArray } }) (sz : items.size ≤ sizeLine) : wpAny (model prog w) A (getItem (.ref t) (.ref sl)) Q E s := by
  have fits : sizeOk (.seq items.toList.reverse.toArray) := by
    show items.toList.reverse.toArray.size ≤ sizeLine
    rw [List.size_toArray, List.length_reverse, Array.length_toList]
    exact sz
  obtain ⟨o, ho, hc, hd⟩ := id hs
  have isS : s.TypeIs (.ref sl) "slice" := ⟨o, ho, hc⟩
  unfold getItem
  try with_reducible refine wpAny_holding ?_
  first | refine wpAny_bind (wpAny_pure ?_) | skip
  refine wpAny_bind (wpAny_sequenceKey ht.typeIs (by decide) ?_)
  refine wpAny_bind (wpAny_callSpecial?_slot (name := Str.ofString "__getitem__") ht.typeIs PyProof.Rows.slot_tuple_getitem
    (wpAny_call_entry PyProof.Rows.slot_tuple_getitem ht.typeIs entry_tuple_getitem ?_ (args_tuple_getitem _ _)))
  show wpAny _ _ (Builtin.Tuple.tupleItemsOf (.ref t) >>= _) _ _ s
  refine wpAny_bind (tupleItemsOf_ ht ?_)
  refine wpAny_bind (wpAny_typeOf isS ?_)
  rw [if_pos (by decide)]
  refine wpAny_bind (applied_back hs pl pu ?_)
  have no : ¬ ((((items.size : Int) - 1 == 0) && (-1 : Int) == 1 && (items.size == items.size)) = true) := by
    intro z
    rw [Bool.and_eq_true, Bool.and_eq_true] at z
    exact absurd z.1.2 (by decide)
  show wpAny _ _ (if (((items.size : Int) - 1 == 0) && (-1 : Int) == 1 && (items.size == items.size)) = true then _ else _) _ _ s
  rw [if_neg no, pick_back]
  first
    | exact wpAny_bind (m := Builtin.Tuple.tupleExact _) (wpAny_newObj_type (wpAny_pure ⟨_, rfl, wpAny_pure q⟩) fits)
    | exact wpAny_bind (m := Builtin.Tuple.tupleExact _) (wpAny_newObj_type (wpAny_bind (wpAny_pure (wpAny_pure ⟨_, rfl, wpAny_pure q⟩))) fits)
    | exact wpAny_bind (wpAny_bind (m := Builtin.Tuple.tupleExact _) (wpAny_newObj_type (wpAny_pure (wpAny_pure ⟨_, rfl, wpAny_pure q⟩)) fits))
    | exact wpAny_bind (wpAny_bind (m := Builtin.Tuple.tupleExact _) (wpAny_newObj_type (wpAny_pure ⟨_, rfl, wpAny_pure q⟩) fits))
end
section
variable {X : Cx}
def tBack (K : PySem.W.Frag) (te : TE) : TE := fun σ H Q => te σ H fun x H1 => ∃ a xs, x = .ref a ∧ SqT K H1 a xs ∧ ∀ p, H1 p = none → Q (.ref p) (upd H1 p (.tup xs.reverse))
theorem pe_back {e : Expr} {te : TE} {k : Nat} {p1 p2 p3 pos : Pos} (he : PE X e te) : PE X (.Subscript e (.Slice none none (some (.UnaryOp .USub (.Constant (.int 1) k p1) p2)) p3) pos) (tBack X.K te) := by
  refine ⟨fun pins s σ H Q I want => ?_⟩
  refine Subscript_ (thn (he.run pins s σ H _ I want) ?_)
  rintro v s1 ⟨x, H1, I1, r1, a, xs, rfl, hx, want1⟩
  cases r1
  refine wpAny_Slice (thn (po_none.run pins s1 σ H1 (fun o G => o = none ∧ G = H1) I1 ⟨rfl, rfl⟩) ?_)
  rintro vl s2 ⟨l, G2, I2, pl, rfl, rfl⟩
  refine thn (po_none.run pins s2 σ G2 (fun o G => o = none ∧ G = G2) I2 ⟨rfl, rfl⟩) ?_
  rintro vu s3 ⟨u, G3, I3, pu, rfl, rfl⟩
  have hst : PE X (.UnaryOp .USub (.Constant (.int 1) k p1) p2) (tUn (rU fun i => .int (-i)) (tC (.int 1))) := pe_un un_neg pe_int
  rw [evalPart_some]
  refine thn (hst.run pins s3 σ G3 (fun y G => y = .int (-1) ∧ G = G3) I3 ⟨1, rfl, rfl, rfl⟩) ?_
  rintro vs s4 ⟨y, H4, I4, ry, rfl, rfl⟩
  obtain ⟨tk, rfl⟩ := ry
  have I5 : Inv X pins σ H4 { s4 with heap := s4.heap.push { cls := .type "slice", data := .fields #[vl, vu, .int (-1) tk] } } := I4.kept (t' := s4.toks) fun b ob z => Heap.get?_push_of_some _ z
  obtain ⟨its, r, ht, hz⟩ := I5.tuple hx
  have hlen := r.length
  refine tail_any (ops := [.ref a, .ref s4.heap.objs.size]) ht.typeIs (PyProof.Rows.slot_tuple_getitem.lookup) ?_ (by with_unfolding_all rfl)
  refine getItem_back ht (Heap.IsSliceOf.new _ vl vu _) pl pu ?_ (by rw [List.size_toArray]; omega)
  refine ⟨.ref _, _, I5.laid (t' := s4.toks) (o := .tup xs.reverse) (fun b ob z => Heap.get?_push_of_some _ z) (Nat.le_refl _) ?_, rfl, want1 _ (I5.hok.fresh (Nat.le_refl _))⟩
  exact ⟨by rw [List.length_reverse]; exact hz, _, r.reverse, ⟨_, Heap.get?_push_size _ rfl, rfl, _, rfl⟩⟩
end
end Gd
namespace Lw
open PySem PySem.Spec PyProof.Rows L2 Gd
/-- a small piece of data -/
structure Small (k : Nat) (d : PyData) : Prop where
  sh : d.showable = true
  lv : d.leavesShort 100 = true
  wt : d.weight ≤ k
  dp : d.depth ≤ 1
def It (av : Addr → Prop) (H : Hp) (v : V) : Prop := ∃ d, Dv av H v d ∧ Small 200 d
theorem It.keep {av : Addr → Prop} {H H' : Hp} {v : V} (x : It av H v) (k : Kp av H H') : It av H' v := by
  obtain ⟨d, h, s⟩ := x
  exact ⟨d, h.keep k, s⟩
theorem len_int {i : Int} (h : i.natAbs < 10 ^ 30) : (Str.ofString (toString i)).length ≤ 100 := by
  have e := int_text_length_le10 (k := 30) (by decide) h
  rw [PySem.ofString_length]
  omega
theorem It.int {av : Addr → Prop} {H : Hp} {i : Int} (h : i.natAbs < 10 ^ 30) : It av H (.int i) := by
  have e : i.natAbs.log2 < 100 := by
    by_cases z : i.natAbs = 0
    · rw [z]
      decide
    · exact (Nat.log2_lt z).mpr (Nat.lt_of_lt_of_le h (by decide))
  refine ⟨.int i, .int i, ?_, ?_, ?_, ?_⟩
  · rw [PyData.showable]
    exact decide_eq_true (by omega)
  · rw [PyData.leavesShort]
    refine decide_eq_true ?_
    rw [PyData.shown_int]
    exact len_int h
  · rw [PyData.weight]
    split <;> omega
  · rw [PyData.depth]
    omega
theorem paired_ix {α β : Type} {R : α → β → Prop} {xs : List α} {ds : List β} (h : Paired R xs ds) : ∀ (i : Nat) (x : α) (d : β), xs[i]? = some x → ds[i]? = some d → R x d := by
  induction h with
  | nil => intro i x d h1 h2; simp at h1
  | cons r _ ih =>
    intro i x d h1 h2
    cases i with
    | zero =>
      cases h1
      cases h2
      exact r
    | succ i => exact ih i x d h1 h2
theorem It.tup {av : Addr → Prop} {H : Hp} {p : Addr} {xs : List V} {ds : List PyData} (e : H p = some (.tup xs)) (n : ¬ av p) (h : Paired (Dv av H) xs ds) (s : Small 200 (.tuple ds)) : It av H (.ref p) :=
  ⟨_, .tup e n (Paired.length h) (paired_ix h), s⟩
theorem It.lst {av : Addr → Prop} {H : Hp} {p : Addr} {xs : List V} {ds : List PyData} (e : H p = some (.lst xs)) (n : ¬ av p) (h : Paired (Dv av H) xs ds) (s : Small 200 (.list ds)) : It av H (.ref p) :=
  ⟨_, .lst e n (Paired.length h) (paired_ix h), s⟩
end Lw
namespace Lw
open PySem PySem.Spec PyProof.Rows L2 Gd
abbrev sRow : Stmt := topS 18
abbrev rowN : List Str := ["_law_stream_here", "_law_most", "_law_size", "_law_way", "_law_width", "_law_entries", "_law_place", "_law_k", "_law_entry"]
theorem scRow : FnScope rowN ["_law_stream_here", "_law_most"] (defScope sRow) := ⟨rfl, rfl, rfl, by decide +kernel, rfl, by decide +kernel, by decide +kernel⟩
def spRow : Sp := fun vs H Q _ => ∃ (s a b : Addr) (n : Nat) (m : Int), vs = [.ref s, .int m] ∧ Sm H s a b n ∧ n < 900000 ∧ 1 ≤ m ∧ m ≤ 12 ∧
  ∀ H' p (ns : List Int), Kp (Av s a) H H' → Sm H' s a b (n + 50) → H p = none → H' p = some (.tup (ns.map V.int)) → 1 ≤ ns.length → (ns.length : Int) ≤ m → (∀ x ∈ ns, -1000000000 ≤ x ∧ x ≤ 1000000000) → Q (.ref p) H'
theorem Sm.nav {H : Hp} {s a b p : Addr} {n : Nat} (x : Sm H s a b n) (z : H p = none) : ¬ Av s a p := fun y => by
  obtain ⟨⟨_, _, _, z1, z2, _⟩, _⟩ := id x
  rcases y with y | y
  · rw [y, z1] at z
    cases z
  · rw [y, z2] at z
    cases z
/-- a new list of drawn entries, so far -/
def PvE (s a b : Addr) (H0 : Hp) (D : Addr) (n0 i : Nat) (H1 : Hp) : Prop := Kp (Av s a) H0 H1 ∧ Sm H1 s a b (n0 + i) ∧ ∃ es : List Int, H1 D = some (.lst (es.map V.int)) ∧ es.length = i ∧ ∀ x ∈ es, -1000000000 ≤ x ∧ x ≤ 1000000000
theorem sm_upd {H : Hp} {s a b D : Addr} {n : Nat} {o : HO} (sm : Sm H s a b n) (h1 : D ≠ s) (h2 : D ≠ a) (h3 : D ≠ b) : Sm (upd H D o) s a b n := by
  obtain ⟨⟨t, bigs, cells, z1, z2, z3, r⟩, p1, p2, p3⟩ := sm
  exact ⟨⟨t, bigs, cells, by rw [upd_ne (Ne.symm h1)]; exact z1, by rw [upd_ne (Ne.symm h2)]; exact z2, by rw [upd_ne (Ne.symm h3)]; exact z3, r⟩, p1, p2, p3⟩
theorem Sm.off {H : Hp} {s a b p : Addr} {n : Nat} (x : Sm H s a b n) (z : H p = none) : p ≠ s ∧ p ≠ a ∧ p ≠ b := by
  obtain ⟨⟨_, _, _, z1, z2, z3, _⟩, _⟩ := id x
  exact ⟨fun y => (by rw [y, z1] at z; cases z), fun y => (by rw [y, z2] at z; cases z), fun y => (by rw [y, z3] at z; cases z)⟩
theorem pv_start {s a b D : Addr} {H1 : Hp} {n0 : Nat} (nD : H1 D = none) (sm : Sm H1 s a b n0) : PvE s a b H1 D n0 0 (upd H1 D (.lst [])) :=
  ⟨Kp.of_same (same_upd nD), sm.keep (same_upd nD), [], upd_same, rfl, fun _ z => nomatch z⟩
theorem pv_step {s a b D : Addr} {H1 H2 H' : Hp} {n0 i : Nat} {r : Int} (nD : H1 D = none) (sm : Sm H1 s a b n0) (hi : i < 1000) (p : PvE s a b H1 D n0 i H2) (kp : Kp (Av s a) H2 H') (sm' : Sm H' s a b (n0 + i + 1)) (r0 : -1000000000 ≤ r) (r1 : r ≤ 1000000000) :
    ∃ acc, H' D = some (.lst acc) ∧ acc.length < sizeLine ∧ PvE s a b H1 D n0 (i + 1) (upd H' D (.lst (acc ++ [.int r]))) := by
  obtain ⟨k2, _, es, hD, hl, hb⟩ := p
  have nav := sm.nav nD
  obtain ⟨o1, o2, o3⟩ := sm.off nD
  refine ⟨_, kp _ _ hD nav, by rw [List.length_map]; exact small_of (by omega), fun b' o z nz => ?_, sm_upd sm' o1 o2 o3, es ++ [r], ?_, ?_, fun x hx => ?_⟩
  · rw [upd_ne (ne_of_none z nD)]
    exact kp _ _ (k2 _ _ z nz) nz
  · rw [upd_same, List.map_append]
    rfl
  · rw [List.length_append, hl]
    rfl
  · rcases List.mem_append.mp hx with hx | hx
    · exact hb x hx
    · rw [List.mem_singleton.mp hx]
      exact ⟨r0, r1⟩
theorem wipe_back {σ : L2.St} {v : Nat} {x : Option V} : wipe ((wipe σ [v]).set v x) [v] = wipe σ [v] := by
  show ((σ.set v none).set v x).set v none = σ.set v none
  rw [List.set_set, List.set_set]
theorem lc_rows {s a b D : Addr} {n0 N v : Nat} {σ : L2.St} {H1 : Hp} {te : TE} {Qd : Hp → Prop} (nD : H1 D = none) (sm : Sm H1 s a b n0) (hN : N ≤ 1000)
    (he : ∀ (i : Nat) (H2 : Hp) (Q' : VK), i < N → Kp (Av s a) H1 H2 → Sm H2 s a b (n0 + i) → (∀ H' r, Kp (Av s a) H2 H' → Sm H' s a b (n0 + i + 1) → -1000000000 ≤ r → r ≤ 1000000000 → Q' (.int r) H') → te ((wipe σ [v]).set v (some (.int (0 + i)))) H2 Q')
    (hd : ∀ H3 (es : List Int), Kp (Av s a) H1 H3 → Sm H3 s a b (n0 + N) → H3 D = some (.lst (es.map V.int)) → es.length = N → (∀ x ∈ es, -1000000000 ≤ x ∧ x ≤ 1000000000) → Qd H3) :
    ∃ W : Nat → Nat → Hp → Prop, (∃ m, W 0 m (upd H1 D (.lst []))) ∧ ∀ i m H, W i m H →
      ((Itr 0 N).stop i H ∧ Qd H) ∨ ((Itr 0 N).go i H ∧ ∃ Nx : Hp → Prop, (∀ H', Nx H' → ∃ m', m' < m ∧ W (i + 1) m' H') ∧ ∀ x H', (Itr 0 N).yld i H x H' → gName v x (wipe σ [v]) H' fun σ2 H2 => wipe σ2 [v] = wipe σ [v] ∧ tYes σ2 H2 fun b H3 =>
        if b = true then te σ2 H3 fun y H4 => ∃ acc, H4 D = some (.lst acc) ∧ acc.length < sizeLine ∧ Nx (upd H4 D (.lst (acc ++ [y]))) else Nx H3) := by
  refine lc_range (PvE s a b H1 D n0) (pv_start nD sm) (fun i H2 hi p => ⟨wipe_back, ?_⟩) (fun H3 p => ?_)
  · refine iteT (B := PvE s a b H1 D n0 (i + 1) H2) (he i H2 _ hi p.1 p.2.1 fun H' r kp sm' r0 r1 => ?_)
    exact pv_step nD sm (by omega) p kp sm' r0 r1
  · obtain ⟨k3, sm3, es, hD, hl, hb⟩ := p
    exact hd H3 es k3 sm3 hD hl hb
theorem lc_rowsL {K : PySem.W.Frag} {s a b D L : Addr} {n0 v : Nat} {σ : L2.St} {H1 : Hp} {te : TE} {Qd : Hp → Prop} {xs : List Int} (nD : H1 D = none) (sm : Sm H1 s a b n0) (hN : xs.length ≤ 1000) (hL : H1 L = some (.lst (xs.map V.int))) (nL : ¬ Av s a L)
    (he : ∀ (i : Nat) (x : Int) (H2 : Hp) (Q' : VK), xs[i]? = some x → Kp (Av s a) H1 H2 → Sm H2 s a b (n0 + i) → (∀ H' r, Kp (Av s a) H2 H' → Sm H' s a b (n0 + i + 1) → -1000000000 ≤ r → r ≤ 1000000000 → Q' (.int r) H') → te ((wipe σ [v]).set v (some (.int x))) H2 Q')
    (hd : ∀ H3 (es : List Int), Kp (Av s a) H1 H3 → Sm H3 s a b (n0 + xs.length) → H3 D = some (.lst (es.map V.int)) → es.length = xs.length → (∀ x ∈ es, -1000000000 ≤ x ∧ x ≤ 1000000000) → Qd H3) :
    ∃ W : Nat → Nat → Hp → Prop, (∃ m, W 0 m (upd H1 D (.lst []))) ∧ ∀ i m H, W i m H →
      ((Itl K L).stop i H ∧ Qd H) ∨ ((Itl K L).go i H ∧ ∃ Nx : Hp → Prop, (∀ H', Nx H' → ∃ m', m' < m ∧ W (i + 1) m' H') ∧ ∀ x H', (Itl K L).yld i H x H' → gName v x (wipe σ [v]) H' fun σ2 H2 => wipe σ2 [v] = wipe σ [v] ∧ tYes σ2 H2 fun b H3 =>
        if b = true then te σ2 H3 fun y H4 => ∃ acc, H4 D = some (.lst acc) ∧ acc.length < sizeLine ∧ Nx (upd H4 D (.lst (acc ++ [y]))) else Nx H3) := by
  refine lc_list (xs := xs.map V.int) (PvE s a b H1 D n0) (pv_start nD sm) (fun i H2 _ p => .inl (.inl (p.1 _ _ hL nL))) (fun i x H2 hx p => ⟨wipe_back, ?_⟩) (fun H3 p => ?_)
  · obtain ⟨z, hz, rfl⟩ := getm hx
    have hi : i < xs.length := (List.getElem?_eq_some_iff.mp hz).1
    refine iteT (B := PvE s a b H1 D n0 (i + 1) H2) (he i z H2 _ hz p.1 p.2.1 fun H' r kp sm' r0 r1 => ?_)
    exact pv_step nD sm (by omega) p kp sm' r0 r1
  · obtain ⟨k3, sm3, es, hD, hl, hb⟩ := p
    rw [List.length_map] at sm3 hl
    exact hd H3 es k3 sm3 hD hl hb
section
variable {P : Program} {w : World} {K : PySem.W.Frag} {mg : Str → Option Value} {base : Heap}
theorem ok_row {f fD : Addr} {fd fdD : FuncData} {k : Nat} (F : Fun K "_law_row" "_law_row" sRow f fd) (GD : FnOk P w K mg base CX0 k fD fdD ["_law_stream_here", "_law_many"] spDraw) (FD : Fun K "_law_draw" "_law_draw" sDraw fD fdD)
    (bD : Binds K fdD ["_law_stream_here", "_law_many"] []) (gD : mg "_law_draw" = some (.ref fD)) (mr : mg "range" = none) (mso : mg "sorted" = none) (mtu : mg "tuple" = none) : FnOk P w K mg base CX0 (k + 1) f fd ["_law_stream_here", "_law_most"] spRow := by
  refine F.ok scRow (fun vs H Q E h => ?_) (fun cdv A outer st H vs Q E hr h => ?_)
  · obtain ⟨s, a, b, n, m, rfl, _⟩ := h
    rfl
  · obtain ⟨s, a, b, n, m, rfl, sm, hn, m1, m12, q⟩ := h
    refine ⟨_, pss_cons (ps_asg (pe_tup (pa_cons (pe_op op_add pe_int (pe_call GD hr (by rfl) gD FD.kp bD .nil pass0 (pa_cons (pv 0) (pa_cons (pv 1) pa_nil)))) (pa_cons (pe_call GD hr (by rfl) gD FD.kp bD .nil pass0 (pa_cons (pv 0) (pa_cons pe_int pa_nil))) pa_nil)))
        (pg_tup rfl (pgs_cons (pg_name (i := 2) scRow.nd rfl (.inr rfl)) (pgs_cons (pg_name (i := 3) scRow.nd rfl (.inl rfl)) pgs_nil))))
      (pss_cons (ps_set (i := 4) scRow.nd rfl (.inr rfl) (pe_ix ix_list (pe_lst (pa_cons pe_int (pa_cons pe_int (pa_cons pe_int (pa_cons pe_int (pa_cons pe_int (pa_cons (pe_op op_pow pe_int pe_int) pa_nil))))))) (pv 3) (fun _ _ => rfl)))
      (pss_cons (ps_setLc (i := 5) (own := [("_law_place", 6)]) (g := gName 6) (tt := tYes) rfl scRow.nd rfl rfl (sw_true rfl rfl rfl (by decide +kernel)) (pi_range1 (by rfl) mr (pa_cons (pv 2) pa_nil))
        (blkOk_by (N := rowN) (sc := defScope sRow) (by decide +kernel)) (fun _ _ _ _ _ => pg_name (i := 6) scRow.nd rfl (Or.inl rfl)) (fun _ _ _ _ _ => pts_nil)
        (fun _ _ _ _ _ => pe_call GD hr (by rfl) gD FD.kp bD .nil pass0 (pa_cons (pv 0) (pa_cons (pv 4) pa_nil))))
      (pss_cons (ps_if (pt_cmpR op_eq (pv 3) pe_int (nomark _))
        (pss_one (ps_setLc (i := 5) (own := [("_law_k", 7)]) (g := gName 7) (tt := tYes) rfl scRow.nd rfl rfl (sw_true rfl rfl rfl (by decide +kernel)) (pi_range1 (by rfl) mr (pa_cons (pv 2) pa_nil))
          (blkOk_by (N := rowN) (sc := defScope sRow) (by decide +kernel)) (fun _ _ _ _ _ => pg_name (i := 7) scRow.nd rfl (Or.inl rfl)) (fun _ _ _ _ _ => pts_nil)
          (fun _ _ _ _ _ => pe_ix (r := rIxL K) ix_list (pe_lst (pa_cons (pv 7) (pa_cons (pe_op op_sub (pv 2) (pv 7)) (pa_cons pe_int pa_nil)))) (pe_call GD hr (by rfl) gD FD.kp bD .nil pass0 (pa_cons (pv 0) (pa_cons pe_int pa_nil))) (fun _ _ => rfl)))) pss_nil)
      (pss_cons (ps_if (pt_cmpR op_eq (pv 3) pe_int (nomark _))
        (pss_one (ps_setLc (i := 5) (own := [("_law_entry", 8)]) (g := gName 8) (tt := tYes) rfl scRow.nd rfl rfl (sw_true rfl rfl rfl (by decide +kernel)) (pi_list (pv 5))
          (blkOk_by (N := rowN) (sc := defScope sRow) (by decide +kernel)) (fun _ _ _ _ _ => pg_name (i := 8) scRow.nd rfl (Or.inl rfl)) (fun _ _ _ _ _ => pts_nil)
          (fun _ _ _ _ _ => pe_ix (r := rIxL K) ix_list (pe_lst (pa_cons (pv 8) (pa_cons (pe_op op_sub pe_int (pv 8)) (pa_cons (pe_op op_pow pe_int pe_int) (pa_cons (pe_op op_sub pe_int (pe_op op_pow pe_int pe_int)) pa_nil)))))
            (pe_call GD hr (by rfl) gD FD.kp bD .nil pass0 (pa_cons (pv 0) (pa_cons pe_int pa_nil))) (fun _ _ => rfl)))) pss_nil)
      (pss_cons (ps_if (PW.pt (pw_and (pt_cmpR op_eq (pv 3) pe_int (nomark _)) (pw_and1 (pt_cmpR op_eq (pe_call GD hr (by rfl) gD FD.kp bD .nil pass0 (pa_cons (pv 0) (pa_cons pe_int pa_nil))) pe_int (nomark _)))))
        (pss_one (ps_set (i := 5) scRow.nd rfl (.inl rfl) (pe_step (pe_callB cr_sortedI (by rfl) mso (by decide +kernel) (pa_cons (pv 5) pa_nil))
          (pe_ix ix_list (pe_lst (pa_cons pe_int (pa_cons (pe_un un_neg pe_int) pa_nil))) (pe_call GD hr (by rfl) gD FD.kp bD .nil pass0 (pa_cons (pv 0) (pa_cons pe_int pa_nil))) (fun _ _ => rfl))))) pss_nil)
      (pss_one (ps_ret (pe_callTy call_tuple_of (by rfl) mtu (by decide +kernel) (pa_cons (pv 5) pa_nil))))))))), ?_⟩
    -- _law_size, _law_way
    refine ⟨.ref s, rfl, .int m, rfl, s, a, b, n, m, rfl, sm, by omega, by omega, by omega, fun H1 r1 k1 sm1 r10 r11 => ⟨1, r1, rfl, rfl, .ref s, rfl, s, a, b, n + 1, 6, rfl, sm1, by omega, by decide, by decide, fun H2 r2 k2 sm2 r20 r21 => ⟨by show 2 ≤ sizeLine; decide, fun t nt => ?_⟩⟩⟩
    refine ⟨t, _, rfl, .inl (.inl upd_same), rfl, _, _, rfl, _, _, rfl, rfl, ?_⟩
    have s3 := same_upd (o := .tup [.int (1 + r1), .int r2]) nt
    have k3 := (k1.trans k2).trans (Kp.of_same s3)
    have sm3 := sm2.keep s3
    generalize upd H2 t (.tup [.int (1 + r1), .int r2]) = H3 at *
    dsimp only
    obtain ⟨N, hN⟩ : ∃ N : Nat, 1 + r1 = (N : Int) := ⟨(1 + r1).toNat, by omega⟩
    rw [hN]
    have N1 : 1 ≤ N := by omega
    have N2 : (N : Int) ≤ m := by omega
    -- _law_width
    refine ⟨10, 9, rfl, rfl, ⟨by decide, by decide, by decide⟩, by show 6 ≤ sizeLine; decide, fun p np => ?_⟩
    have s4 := same_upd (o := .lst [.int 2, .int 3, .int 6, .int 40, .int 3, .int (10 ^ (9 : Int).toNat)]) np
    obtain ⟨wv, hat, w0, w1⟩ : ∃ wv : Int, atI ([.int 2, .int 3, .int 6, .int 40, .int 3, .int (10 ^ (9 : Int).toNat)] : List V) r2 = some (.int wv) ∧ 0 < wv ∧ wv ≤ 1000000000 := by
      obtain ⟨j, rfl⟩ : ∃ j : Nat, r2 = (j : Int) := ⟨r2.toNat, by omega⟩
      have hj : j < 6 := by omega
      match j, hj with
      | 0, _ => exact ⟨2, rfl, by decide, by decide⟩
      | 1, _ => exact ⟨3, rfl, by decide, by decide⟩
      | 2, _ => exact ⟨6, rfl, by decide, by decide⟩
      | 3, _ => exact ⟨40, rfl, by decide, by decide⟩
      | 4, _ => exact ⟨3, rfl, by decide, by decide⟩
      | 5, _ => exact ⟨1000000000, by decide +kernel, by decide, by decide⟩
    refine ⟨.int r2, rfl, p, _, r2, .int wv, rfl, rfl, .inl (.inl upd_same), hat, ?_⟩
    have k4 := k3.trans (Kp.of_same s4)
    have sm4 := sm3.keep s4
    clear hat
    dsimp only
    generalize upd H3 p (.lst [.int 2, .int 3, .int 6, .int 40, .int 3, .int (10 ^ (9 : Int).toNat)]) = H4 at *
    -- _law_entries, drawn
    refine ⟨.int N, rfl, N, rfl, by omega, by omega, fun D nD => lc_rows (s := s) (a := a) (b := b) (n0 := n + 2) nD sm4 (by show (N : Int).toNat ≤ 1000; omega) (fun i H5 Q' hi k5 sm5 q5 => ?_) (fun H5 es k5 sm5 hD hl hb => ?_)⟩
    · exact ⟨.ref s, rfl, .int wv, rfl, s, a, b, _, wv, rfl, sm5, by omega, w0, (by omega), fun H' r kp sm' r0 r1 => q5 H' r kp sm' (by omega) (by omega)⟩
    rw [Int.toNat_natCast] at sm5 hl
    have nvD : ¬ Av s a D := sm4.nav nD
    have k6 := k4.trans k5
    have fin : ∀ (H7 : Hp) (L : Addr) (zs : List Int) (n7 : Nat), Kp (Av s a) H H7 → Sm H7 s a b n7 → n7 ≤ n + 50 → H7 L = some (.lst (zs.map V.int)) → zs.length = N → (∀ x ∈ zs, -1000000000 ≤ x ∧ x ≤ 1000000000) →
        SqL K H7 L (zs.map V.int) ∧ ∀ l, H7 l = none → Q (.ref l) (upd H7 l (.tup (zs.map V.int))) := by
      intro H7 L zs n7 k7 sm7 hn7 hL hz hbz
      refine ⟨.inl (.inl hL), fun l nl => ?_⟩
      refine q _ l zs (k7.trans (Kp.of_same (same_upd nl))) ((sm7.keep (same_upd nl)).mono hn7) ?_ upd_same (by omega) (by omega) hbz
      cases e0 : H l with
      | none => rfl
      | some u =>
        rw [k7 l u e0 (sm7.nav nl)] at nl
        cases nl
    -- if _law_way == 4
    refine ⟨.int r2, rfl, rfl, _, rfl, ite2 (fun e4 => ?_) (fun e4 => ?_)⟩
    · have e4' : r2 = 4 := V.int.inj (of_decide_eq_true e4)
      subst e4'
      refine ⟨.int N, rfl, N, rfl, by omega, by omega, fun D2 nD2 => lc_rows (s := s) (a := a) (b := b) (n0 := n + 2 + N) nD2 sm5 (by show (N : Int).toNat ≤ 1000; omega) (fun i H6 Q' hi k7 sm7 q7 => ?_) (fun H7 zs k7 sm7 hD2 hz hbz => ?_)⟩
      · refine ⟨.int (0 + i), rfl, .int N, rfl, .int (0 + i), rfl, N, 0 + i, rfl, rfl, by show 3 ≤ sizeLine; decide, fun p2 np2 => ?_⟩
        have s8 := same_upd (o := .lst [.int (0 + i), .int (N - (0 + i)), .int 0]) np2
        refine ⟨.ref s, rfl, s, a, b, _, 3, rfl, sm7.keep s8, by omega, by decide, by decide, fun H' r kp sm' r0 r1 => ?_⟩
        have hp2 := kp _ _ (upd_same (H := H6) (a := p2) (o := .lst [.int (0 + i), .int (N - (0 + i)), .int 0])) (sm7.nav np2)
        have hi' : i < N := by
          rw [Int.toNat_natCast] at hi
          exact hi
        obtain ⟨y, hy, y0, y1⟩ : ∃ y : Int, atI ([.int (0 + i), .int (N - (0 + i)), .int 0] : List V) r = some (.int y) ∧ -1000000000 ≤ y ∧ y ≤ 1000000000 := by
          obtain ⟨j, rfl⟩ : ∃ j : Nat, r = (j : Int) := ⟨r.toNat, by omega⟩
          have hj : j < 3 := by omega
          match j, hj with
          | 0, _ => exact ⟨0 + i, rfl, by omega, by omega⟩
          | 1, _ => exact ⟨N - (0 + i), rfl, by omega, by omega⟩
          | 2, _ => exact ⟨0, rfl, by omega, by omega⟩
        exact ⟨p2, _, r, .int y, rfl, rfl, .inl (.inl hp2), hy, q7 H' y ((Kp.of_same s8).trans kp) sm' y0 y1⟩
      · rw [Int.toNat_natCast] at sm7 hz
        refine ⟨.int 4, rfl, rfl, _, rfl, ?_⟩
        refine iteF ?_
        -- not 3
        refine ⟨.int 4, rfl, rfl, _, rfl, ?_⟩
        refine iteF ?_
        refine iteF ?_
        exact ⟨.ref D2, rfl, D2, _, rfl, .inl (fin H7 D2 zs _ (k6.trans k7) sm7 (by omega) hD2 hz hbz)⟩
    · -- if _law_way == 5
      refine ⟨.int r2, rfl, rfl, _, rfl, ite2 (fun e5 => ?_) (fun e5 => ?_)⟩
      · have e5' : r2 = 5 := V.int.inj (of_decide_eq_true e5)
        subst e5'
        refine ⟨.ref D, rfl, D, rfl, ⟨_, .inl (.inl hD)⟩, fun D2 nD2 => lc_rowsL (s := s) (a := a) (b := b) (n0 := n + 2 + N) (xs := es) nD2 sm5 (by omega) hD nvD (fun i x H6 Q' hx k7 sm7 q7 => ?_) (fun H7 zs k7 sm7 hD2 hz hbz => ?_)⟩
        · have hi' : i < es.length := (List.getElem?_eq_some_iff.mp hx).1
          obtain ⟨x0, x1⟩ := hb x (List.mem_of_getElem? hx)
          refine ⟨.int x, rfl, .int x, rfl, 0, x, rfl, rfl, 10, 9, rfl, rfl, ⟨by decide, by decide, by decide⟩, 10, 9, rfl, rfl, ⟨by decide, by decide, by decide⟩, 0, _, rfl, rfl, by show 4 ≤ sizeLine; decide, fun p2 np2 => ?_⟩
          have s8 := same_upd (o := .lst [.int x, .int (0 - x), .int (10 ^ (9 : Int).toNat), .int (0 - 10 ^ (9 : Int).toNat)]) np2
          refine ⟨.ref s, rfl, s, a, b, _, 4, rfl, sm7.keep s8, by omega, by decide, by decide, fun H' r kp sm' r0 r1 => ?_⟩
          have hp2 := kp _ _ (upd_same (H := H6) (a := p2) (o := .lst [.int x, .int (0 - x), .int (10 ^ (9 : Int).toNat), .int (0 - 10 ^ (9 : Int).toNat)])) (sm7.nav np2)
          obtain ⟨y, hy, y0, y1⟩ : ∃ y : Int, atI ([.int x, .int (0 - x), .int (10 ^ (9 : Int).toNat), .int (0 - 10 ^ (9 : Int).toNat)] : List V) r = some (.int y) ∧ -1000000000 ≤ y ∧ y ≤ 1000000000 := by
            obtain ⟨j, rfl⟩ : ∃ j : Nat, r = (j : Int) := ⟨r.toNat, by omega⟩
            have hj : j < 4 := by omega
            match j, hj with
            | 0, _ => exact ⟨x, rfl, by omega, by omega⟩
            | 1, _ => exact ⟨0 - x, rfl, by omega, by omega⟩
            | 2, _ => exact ⟨1000000000, rfl, by omega, by omega⟩
            | 3, _ => exact ⟨-1000000000, rfl, by omega, by omega⟩
          exact ⟨p2, _, r, .int y, rfl, rfl, .inl (.inl hp2), hy, q7 H' y ((Kp.of_same s8).trans kp) sm' y0 y1⟩
        · refine ⟨.int 5, rfl, rfl, _, rfl, ?_⟩
          refine iteF ?_
          refine iteF ?_
          exact ⟨.ref D2, rfl, D2, _, rfl, .inl (fin H7 D2 zs _ (k6.trans k7) sm7 (by omega) hD2 (by omega) hbz)⟩
      · -- if _law_way == 3 and a draw
        refine ⟨.int r2, rfl, rfl, _, rfl, ?_⟩
        refine ite2 (fun e3 => ?_) (fun e3 => ?_)
        · refine ⟨.ref s, rfl, s, a, b, _, 2, rfl, sm5, by omega, by decide, by decide, fun H6 r k7 sm7 r0 r1 => ?_⟩
          have hD6 := k7 _ _ hD nvD
          refine ⟨rfl, _, rfl, ite2 (fun e0 => ?_) (fun e0 => ?_)⟩
          · refine ⟨.ref D, rfl, D, es, rfl, .inl (.inl hD6), fun ns' p5 perm _ np5 => ?_⟩
            have s8 := same_upd (o := .lst (ns'.map V.int)) np5
            have sm8 := sm7.keep s8
            have e8 : (upd H6 p5 (.lst (ns'.map V.int))) p5 = some (.lst (ns'.map V.int)) := upd_same
            have k8 := k7.trans (Kp.of_same s8)
            have nv5 := sm7.nav np5
            generalize upd H6 p5 (.lst (ns'.map V.int)) = H7 at *
            refine ⟨1, rfl, by show 2 ≤ sizeLine; decide, fun p6 np6 => ?_⟩
            have s9 := same_upd (o := .lst [.int 1, .int (-1)]) np6
            refine ⟨.ref s, rfl, s, a, b, _, 2, rfl, sm8.keep s9, by omega, by decide, by decide, fun H8 r' k9 sm9 r0' r1' => ?_⟩
            have hp6 := k9 _ _ (upd_same (H := H7) (a := p6) (o := .lst [.int 1, .int (-1)])) (sm8.nav np6)
            have hp5 := k9 _ _ (s9 _ _ e8) nv5
            obtain ⟨y, hy, hy1⟩ : ∃ y : Int, atI ([.int 1, .int (-1)] : List V) r' = some (.int y) ∧ (y = 1 ∨ y = -1) := by
              obtain ⟨j, rfl⟩ : ∃ j : Nat, r' = (j : Int) := ⟨r'.toNat, by omega⟩
              have hj : j < 2 := by omega
              match j, hj with
              | 0, _ => exact ⟨1, rfl, .inl rfl⟩
              | 1, _ => exact ⟨-1, rfl, .inr rfl⟩
            refine ⟨p6, _, r', .int y, rfl, rfl, .inl (.inl hp6), hy, p5, _, y, rfl, .inl (.inl hp5), rfl, hy1, fun zs l hzs nl => ?_⟩
            obtain ⟨zz, rfl, hlen, hmem⟩ : ∃ zz : List Int, zs = zz.map V.int ∧ zz.length = N ∧ ∀ x ∈ zz, -1000000000 ≤ x ∧ x ≤ 1000000000 := by
              have h1 : ns'.length = N := perm.length_eq.trans hl
              have h2 : ∀ x ∈ ns', -1000000000 ≤ x ∧ x ≤ 1000000000 := fun x hx => hb x (perm.mem_iff.mp hx)
              rcases hzs with z | z
              · exact ⟨ns', z, h1, h2⟩
              · exact ⟨ns'.reverse, by rw [z, List.map_reverse], by rw [List.length_reverse]; exact h1, fun x hx => h2 x (List.mem_reverse.mp hx)⟩
            have s10 := same_upd (o := .lst (zz.map V.int)) nl
            exact ⟨.ref l, rfl, l, _, rfl, .inl (fin _ l zz _ ((k6.trans k8).trans ((Kp.of_same s9).trans (k9.trans (Kp.of_same s10)))) (sm9.keep s10) (by omega) upd_same hlen hmem)⟩
          · exact ⟨.ref D, rfl, D, _, rfl, .inl (fin H6 D es _ (k6.trans k7) sm7 (by omega) hD6 hl hb)⟩
        · refine iteF ?_
          exact ⟨.ref D, rfl, D, _, rfl, .inl (fin H5 D es _ k6 sm5 (by omega) hD hl hb)⟩
end
end Lw
namespace Lw
open PySem PySem.Spec PyProof.Rows L2 Gd
abbrev sPick : Stmt := topS 17
theorem scPick : FnScope ["_law_stream_here", "_law_items"] ["_law_stream_here", "_law_items"] (defScope sPick) := ⟨rfl, rfl, rfl, by decide +kernel, rfl, by decide +kernel, by decide +kernel⟩
def spPick : Sp := fun vs H Q _ => ∃ (s a b L : Addr) (n : Nat) (xs : List V), vs = [.ref s, .ref L] ∧ Sm H s a b n ∧ n < 1000000 ∧ H L = some (.lst xs) ∧ ¬ Av s a L ∧ xs ≠ [] ∧ xs.length ≤ 1000 ∧
  ∀ H' v, Kp (Av s a) H H' → Sm H' s a b (n + 1) → v ∈ xs → Q v H'
theorem Sm.navT {H : Hp} {s a b p : Addr} {n : Nat} {xs : List V} (x : Sm H s a b n) (z : H p = some (.tup xs)) : ¬ Av s a p := fun y => by
  obtain ⟨⟨_, _, _, z1, z2, _⟩, _⟩ := id x
  rcases y with y | y
  · rw [y, z1] at z
    cases z
  · rw [y, z2] at z
    cases z
theorem sla_of {K : PySem.W.Frag} {H : Hp} {t : Addr} {xs : List V} {lo hi : Option Int} {Q : VK} (e : H t = some (.tup xs)) (q : ∀ p H', Same H H' → H' p = some (.tup (cutV xs lo hi)) → Q (.ref p) H') : rSlA K (.ref t) lo hi H Q := by
  refine ⟨t, xs, rfl, .inl (.inl e), fun z => ?_, fun _ p np => q p _ (same_upd np) upd_same⟩
  refine q t H (Same.refl H) ?_
  unfold cutV
  rw [z.1, z.2, List.drop_zero, Nat.sub_zero, List.take_length]
  exact e
theorem sla_hi {K : PySem.W.Frag} {σ : L2.St} {H : Hp} {t : Addr} {xs : List V} {lo : Option Int} {Q : VK} (e : H t = some (.tup xs)) (q : ∀ p H', Same H H' → H' p = some (.tup (cutV xs lo none)) → Q (.ref p) H') : tNoPart σ H (fun u H3 => rSlA K (.ref t) lo u H3 Q) :=
  sla_of e q
theorem cata_of {K : PySem.W.Frag} {H : Hp} {t u : Addr} {xs ys : List V} {Q : VK} (e : H t = some (.tup xs)) (e2 : H u = some (.tup ys)) (l : xs.length + ys.length ≤ sizeLine)
    (q : ∀ p H', Same H H' → H' p = some (.tup (xs ++ ys)) → Q (.ref p) H') : rCatA K (.ref t) (.ref u) H Q := by
  refine ⟨t, u, xs, ys, rfl, rfl, .inl (.inl e), .inl (.inl e2), l, fun z => ?_, fun _ z => ?_, fun _ _ p np => q p _ (same_upd np) upd_same⟩
  · refine q u H (Same.refl H) ?_
    rw [z]
    exact e2
  · refine q t H (Same.refl H) ?_
    rw [z, List.append_nil]
    exact e
theorem cut_mem {xs : List V} {lo hi : Option Int} {x : V} (h : x ∈ cutV xs lo hi) : x ∈ xs := List.mem_of_mem_drop (List.mem_of_mem_take h)
/-- a tuple or a list of small things -/
def Vl (av : Addr → Prop) (H : Hp) (M : Nat) (v : V) : Prop := ∃ p xs, v = .ref p ∧ (H p = some (.tup xs) ∨ H p = some (.lst xs)) ∧ ¬ av p ∧ xs.length ≤ M ∧ ∀ x ∈ xs, It av H x
theorem Vl.keep {av : Addr → Prop} {H H' : Hp} {M : Nat} {v : V} (x : Vl av H M v) (k : Kp av H H') : Vl av H' M v := by
  obtain ⟨p, xs, e, h, n, l, f⟩ := x
  refine ⟨p, xs, e, ?_, n, l, fun y hy => (f y hy).keep k⟩
  rcases h with h | h
  · exact .inl (k _ _ h n)
  · exact .inr (k _ _ h n)
def spBent : Sp := fun vs H Q _ => ∃ (s a b : Addr) (n M : Nat) (v : V), vs = [.ref s, v] ∧ Sm H s a b n ∧ n < 900000 ∧ M ≤ 1000 ∧ Vl (Av s a) H M v ∧
  ∀ H' v', Kp (Av s a) H H' → Sm H' s a b (n + 10) → Vl (Av s a) H' (3 * M + 2) v' → Q v' H'
section
variable {P : Program} {w : World} {K : PySem.W.Frag} {mg : Str → Option Value} {base : Heap}
theorem ok_pick {f fD : Addr} {fd fdD : FuncData} {k : Nat} (F : Fun K "_law_pick" "_law_pick" sPick f fd) (GD : FnOk P w K mg base CX0 k fD fdD ["_law_stream_here", "_law_many"] spDraw) (FD : Fun K "_law_draw" "_law_draw" sDraw fD fdD)
    (bD : Binds K fdD ["_law_stream_here", "_law_many"] []) (gD : mg "_law_draw" = some (.ref fD)) (ml : mg "len" = none) : FnOk P w K mg base CX0 (k + 1) f fd ["_law_stream_here", "_law_items"] spPick := by
  refine F.ok scPick (fun vs H Q E h => ?_) (fun cdv A outer st H vs Q E hr h => ?_)
  · obtain ⟨s, a, b, L, n, xs, rfl, _⟩ := h
    rfl
  · obtain ⟨s, a, b, L, n, xs, rfl, sm, hn, hL, nL, x0, x1, q⟩ := h
    refine ⟨_, pss_one (ps_ret (pe_ix ix_list (pv 1) (pe_call GD hr (by rfl) gD FD.kp bD .nil pass0 (pa_cons (pv 0) (pa_cons (pe_callB call_len_seq (by rfl) ml PySem.boot_len (pa_cons (pv 1) pa_nil)) pa_nil))) (fun _ _ => rfl))), ?_⟩
    have lp := List.length_pos_iff.mpr x0
    refine ⟨.ref L, rfl, .ref s, rfl, .ref L, rfl, L, _, rfl, .inl (.inl (.inl hL)), s, a, b, n, _, rfl, sm, hn, by omega, by omega, fun H' r kp sm' r0 r1 => ?_⟩
    obtain ⟨j, rfl⟩ : ∃ j : Nat, r = (j : Int) := ⟨r.toNat, by omega⟩
    have hj : j < xs.length := by omega
    refine ⟨L, xs, _, xs[j], rfl, rfl, .inl (.inl (kp _ _ hL nL)), atI_nat (List.getElem?_eq_getElem hj), q H' _ kp sm' (List.getElem_mem hj)⟩
end
end Lw
/-! the first store into a new exception of an own class, over any base -/
namespace Gd
open PySem PySem.Spec PyProof.Rows PySem.HandSPX PySem.W
open PySem.Builtin PySem.Builtin.ObjectAttr
section
variable {prog : Program} {w : World} {A : Around} {R : Result → Shared → Prop} {hp : Heap} {g : Array GenState} {d : Drawn} {t : Nat} {os : OsState}
theorem osaX {K : W.Frag} {name : Str} {tk : Tok} {v : Value} {x C : Addr} {fv : Array Value} {cd : ClassData} {tl : List Value} (pass : ∀ self : Value, refuseLoop self "__setattr__" tl = pure ()) (obj : tl.contains (.type "object") = true)
    (X : K.In hp) (hx : hp.get? x = some { cls := .ref C, data := .fields fv }) (hcd : W.clsIn K C = some cd) (hm : excTail tl cd.mro = true) (hh : cd.hasDict = true) (ha : W.findIn K (.ref C) name = some none)
    (q : ∀ h' tk' dx, (∀ b o, b ≠ x → hp.get? b = some o → h'.get? b = some o) → hp.objs.size ≤ dx → dx ≠ x → h'.get? x = some { cls := .ref C, dict := some dx, data := .fields fv } →
      h'.Ns1 dx (fun y => if y = name then some v else none) → R (.ok (.ret .none)) ⟨h', g, d, tk', os⟩) :
    codeAny (model prog w) A (.call (.builtin "object.__setattr__") ⟨[.ref x, .str name tk, v], []⟩) R ⟨hp, g, d, t, os⟩ := by
  have inst : W.InstAt hp x { cls := .ref C, data := .fields fv } C none := ⟨hx, rfl, rfl, trivial⟩
  have SF := PySem.F.store_object
  have isObj : cd.mro.contains (.type "object") = true := (excTail_contains "object" _ hm).trans obj
  have full : cd.mro.isEmpty = false := by
    cases z : cd.mro with
    | nil => rw [z] at isObj; cases isObj
    | cons _ _ => rfl
  have off : x ≠ hp.objs.size := Nat.ne_of_lt (Heap.lt_size hx)
  have sub : W.Looks (model prog w) hp (isInstance (.ref x) (.type "object")) true := by
    refine inst.type.andThen (W.looks_mroIn X ?_)
    unfold W.mroIn
    rw [hcd, Option.bind_some, if_neg (by rw [full]; decide), isObj]
  refine codeAny_call_builtin SF.slot.plain SF.entry ?_
  refine @W.check_slot (model prog w) _ _ ⟨hp, g, d, t, os⟩ "object.__setattr__" "object" "__setattr__" (.ref x) [.str name tk, v] [] _ SF.kind SF.split sub (SF.args (.ref x) (.str name tk) v) ?_
  have order : W.Looks (model prog w) hp (mroOf (.ref C)) cd.mro := (W.looks_clsIn X hcd).andThen .now
  have taker : W.Looks (model prog w) hp (storeTaker? none) none := .now
  have data : W.Looks (model prog w) hp (classData C) cd := W.looks_clsIn X hcd
  rw [W.osa_eq, refuse_eq]
  refine wpAny_bind (wpAny_bind (inst.type.at (wpAny_bind (order.at ?_))))
  rw [excTail_pass (.ref x) (pass _) _ hm]
  refine wpAny_pure (wpAny_bind (inst.type.at (wpAny_bind ((W.looks_findIn X ha).at ?_))))
  refine wpAny_bind (taker.at ?_)
  show wpAny _ _ (storeInOwnDict (.ref x) (.ref C) (.str name tk) name v false) _ _ _
  obtain ⟨nm, bs, mro, ns, qn, hd, sn, sb, ab, col, del⟩ := cd
  dsimp only at hh
  subst hh
  unfold storeInOwnDict ownDictForStores
  repeat (first | with_reducible refine store_in_new ?_ ?_ | with_reducible refine wpAny_loadPart_at hx ?_ | with_reducible refine data.at ?_ | wp_step)
  · refine ⟨_, #[], _, (Heap.get?_update_ne _ _ _ _ off.symm).trans (Heap.get?_push_at rfl rfl), rfl, ?_, fun _ => rfl⟩
    intro e he
    exact absurd he (by simp)
  · intro h' tk' hn' hs
    have was : (hp.push { cls := .type "dict", data := .dict #[] }).get? x = some { cls := .ref C, data := .fields fv } := Heap.get?_push_of_some _ hx
    refine q h' tk' hp.objs.size ?_ (Nat.le_refl _) off.symm ((hs.2 x off).trans (Heap.get?_update_self _ was rfl)) hn'
    intro b o hb ho
    exact (hs.2 b (Nat.ne_of_lt (Heap.lt_size ho))).trans ((Heap.get?_update_ne _ _ _ _ hb).trans (Heap.get?_push_of_some _ ho))
end
end Gd
/-! own errors held as values: made, asked for their classes, their fields read -/
namespace Gd
open PySem PySem.Spec PyProof.Rows L2
/-- an error of the class cls at a, its own dict at d -/
def ExD (cls : Value) (a d : Addr) : HO := .ext fun h => ∃ (oe : Obj) (vs : Array Value), h.get? a = some oe ∧ Zc cls (some d) oe ∧ oe.data = .fields vs
theorem exD_ok {P : Program} {w : World} {H : Hp} {h : Heap} {a d : Addr} {cls : Value} {oe : Obj} {vs : Array Value} (e : h.get? a = some oe) (z : Zc cls (some d) oe) (dt : oe.data = .fields vs) : ObjOk P w H h a (ExD cls a d) := by
  refine ⟨⟨oe, vs, e, z, dt⟩, ⟨oe, e⟩, ?_⟩
  rintro h1 h2 ⟨o, v, q, r⟩ k
  exact ⟨o, v, k o q, r⟩
/-- an error of the class at C stands at a -/
def ErrAt (H : Hp) (a C : Addr) : Prop := H a = some (ExO (.ref C) a) ∨ ∃ d fs, H a = some (ExD (.ref C) a d) ∧ H d = some (.xd fs)
theorem ErrAt.keep {H H' : Hp} {a C : Addr} (h : ErrAt H a C) (s : Same H H') : ErrAt H' a C := by
  rcases h with h | ⟨d, fs, h1, h2⟩
  · exact .inl (s _ _ h)
  · exact .inr ⟨d, fs, s _ _ h1, s _ _ h2⟩
/-- what isinstance asks of the class of an error -/
structure ExcV (K : PySem.W.Frag) (D : Addr) : Prop where
  cl : (PySem.W.clsIn K D).isSome = true
  ga : PySem.W.findIn K (.ref D) "__getattribute__" = some (some (.builtin "BaseException.__getattribute__"))
  gg : PySem.W.findIn K (.ref D) "__getattr__" = some none
  sb : PySem.W.subIn K (.ref D) (.type "BaseException") = some true
  ca : PySem.W.findIn K (.ref D) "__class__" = some (some (.builtin "object.__class__"))
  cg : PySem.W.specialIn K (.builtin "object.__class__") "__get__" = some (some (.builtin "getset_descriptor.__get__"))
  ct : PySem.W.takesIn K (.builtin "object.__class__") = some true
  co : PySem.W.mroIn K D (.type "object") = some true
structure OwnMade (fld : Str) (h h' : Heap) (e C d : Addr) (v : Value) : Prop where
  keep : ∀ b o, h.get? b = some o → h'.get? b = some o
  new : h.objs.size ≤ e
  obj : ∃ oe vs, h'.get? e = some oe ∧ oe.cls = .ref C ∧ oe.dict = some d ∧ oe.data = .fields vs
  dbig : h.objs.size ≤ d
  dne : d ≠ e
  ns : h'.Ns1 d (fun y => if y = fld then some v else none)
section
variable {X : Cx} {pins : List (Addr × Obj)} {σ : L2.St} {H : Hp} {s : Shared} {a C : Addr}
theorem ErrAt.inst (I : Inv X pins σ H s) (h : ErrAt H a C) : ∃ oe od, PySem.W.InstAt s.heap a oe C od := by
  rcases h with h | ⟨d, fs, h1, h2⟩
  · obtain ⟨⟨oe, vs, ho, hz, hd, _⟩, _, _⟩ := I.hok a _ h
    obtain ⟨oc, odd, oda, osl⟩ := oe
    obtain ⟨z1, z2⟩ := hz
    dsimp only at z1 z2 hd
    subst z1 z2 hd
    exact ⟨_, none, ho, rfl, rfl, trivial⟩
  · obtain ⟨⟨oe, vs, ho, hz, hd⟩, _, _⟩ := I.hok a _ h1
    have ox : ObjOk X.prog X.w H s.heap d (.xd fs) := I.hok d _ h2
    obtain ⟨mA, hns, _⟩ := ox
    obtain ⟨od, hod, _⟩ := lookIn_ns hns
    exact ⟨oe, some od, ho, hz.1, by unfold PySem.W.notCls; rw [hd] <;> rfl, by rw [hz.2]; exact hod⟩
def rIsV (K : PySem.W.Frag) : List V → Hp → VK → Prop := fun xs H Q => ∃ (a C : Addr) (c : V) (u : Value) (b : Bool), xs = [.ref a, c] ∧ ErrAt H a C ∧ ExcV K C ∧ ClsV c u ∧ PySem.W.kitOne K (.ref C) u = some b ∧ Q (.bl b) H
theorem call_isV : CallR X (.builtin "isinstance") (rIsV X.K) := by
  intro pins s σ H xs us Q I r want
  obtain ⟨a, C, c, u, b, rfl, ea, D, kc, e, q⟩ := want
  obtain ⟨u1, u2, rfl, r1, r2⟩ := vals2 r
  cases r1
  have e2 := kc.eq r2
  subst e2
  obtain ⟨oe, od, J⟩ := ea.inst I
  exact PySem.W.kia_one (PySem.W.kitx_exc D.cl D.ga D.gg D.sb D.ca D.cg D.ct D.co) I.kIn J e (fun z => nomatch z) fun tk => ⟨.bl b, H, I.tok tk, rfl, q⟩
end
section
variable {X : Cx} {x : Str} {C : Addr} {p pos : Pos}
/-- X(), an own class without own __init__ -/
theorem pe_exc0 {bmB : List Value} {B newId initId : String} (F : ExcBaseFacts B newId initId bmB) (q : PySem.W.excIn X.K C bmB newId = true) (gC : X.mg x = some (.ref C)) (kC : PySem.W.keepIn X.K (.ref C) = true) (hg : Gl X x)
    (hdb : (x == ("__debug__" : Str)) = false := by decide) : PE X (.Call (.Name x p) [] [] pos) (fun σ H Q => ∀ a, H a = none → Q (.ref a) (upd H a (ExO (.ref C) a))) := by
  refine ⟨fun pins s σ H Q I want => ?_⟩
  refine wpAny_Call_Name_kw (ld_glob I hg gC ?_ hdb)
  refine PySem.W.callWith_K0 I.kIn kC ?_
  obtain ⟨bm, N, nm, qn, bs, hdct, sn, sub, ab, col, dd, k0, k1, k2, k3, k5, mN, hC, hN, hni, T⟩ := exc_obj I.kIn q
  refine wpAny_call_exc_subT F T hC hN hni (fun h' a made => ?_) (by show 0 ≤ sizeLine; exact Nat.zero_le _)
  have free : H a = none := I.hok.gone made.new
  obtain ⟨t, ht, _, _⟩ := made.there
  exact ⟨.ref a, upd H a (ExO (.ref C) a), I.laidN made.keeps made.new free (exO_ok ht ⟨rfl, rfl⟩ rfl rfl rfl (show 4 < 6 by decide)), rfl, want a free⟩
theorem relO_fld {fld : Str} {v : V} {u : Value} (r : RelV v u) (f : Str) : RelO (List.lookup f [(fld, v)]) (if f = fld then some u else none) := by
  by_cases e : f = fld
  · subst e
    rw [if_pos rfl, List.lookup_cons_self]
    exact r
  · have z : (f == fld) = false := by simpa using e
    rw [if_neg e, List.lookup_cons, z]
    trivial
/-- X(e), an own class whose __init__ keeps e as a field -/
theorem pe_mkV {fld : Str} {a : Expr} {ta : TA} {k : Nat}
    (made : ∀ {s : Shared} {u : Value} {R : Result → Shared → Prop}, X.K.In s.heap → s.heap.NoLimit → X.A.depth + 1 < recursionLimit → (∀ h' tk e d, OwnMade fld s.heap h' e C d u → R (.ok (.ret (.ref e))) { s with heap := h', toks := tk }) →
      codeAny (model X.prog X.w) X.A (.call (.ref C) ⟨[u], []⟩) R s)
    (gC : X.mg x = some (.ref C)) (kC : PySem.W.keepIn X.K (.ref C) = true) (hr : Room k X.A) (hg : Gl X x) (ha : PA X [a] ta) (hdb : (x == ("__debug__" : Str)) = false := by decide)
    (he : starEach (a :: []) X.env = (false, eval a X.env) :: starEach [] X.env := by rfl) (hpl : (backTo pos (starEach [] X.env)).any (·.1) = false := by rfl) :
    PE X (.Call (.Name x p) [a] [] pos) (fun σ H Q => ta σ H fun vs H1 => ∃ v, vs = [v] ∧ ∀ d e, H1 d = none → H1 e = none → d ≠ e → Q (.ref e) (upd (upd H1 d (.xd [(fld, v)])) e (ExD (.ref C) e d))) := by
  refine ⟨fun pins s σ H Q I want => ?_⟩
  refine wpAny_Call_Name_kw (ld_glob I hg gC ?_ hdb)
  refine PySem.W.callWith_K (h₀ := X.base) I.ok.mod.kin kC (thn (ha.run pos pins s σ H _ I want) ?_) he hpl
  rintro us s1 ⟨vs, H1, I1, r1, v, rfl, q1⟩
  refine ⟨I1.kIn, ?_⟩
  obtain ⟨u, rfl, ru⟩ := vals1 r1
  show wpAny _ _ (call (.ref C) [u]) _ _ _
  have lim := I1.nolimit
  obtain ⟨hp, g, dr, tk, os⟩ := s1
  refine wpAny_call (made I1.kIn lim (by have := hr.dp; omega) ?_)
  intro h' tk' e d M
  obtain ⟨oe, fv, hoe, hc, hd, hdat⟩ := M.obj
  obtain ⟨G', g1, g2⟩ := restrict h' fun b => decide (b ≠ e)
  have same : ∀ b, b ≠ e → G'.get? b = h'.get? b := fun b hb => g1 b (decide_eq_true hb)
  have gone : G'.get? e = none := g2 e (by simp)
  have old : ∀ b o, hp.get? b = some o → G'.get? b = some o := fun b o z => (same b (Nat.ne_of_lt (Nat.lt_of_lt_of_le (Heap.lt_size z) M.new))).trans (M.keep b o z)
  have ob : ObjOk X.prog X.w (upd H1 d (.xd [(fld, v)])) G' d (.xd [(fld, v)]) := ⟨_, M.ns.at (fun o z => (same d M.dne).trans z), fun f => relO_fld ru f⟩
  have J : Inv X pins σ (upd H1 d (.xd [(fld, v)])) ⟨G', g, dr, tk', os⟩ := I1.laid (t' := tk') old M.dbig ob
  have fe : H1 e = none := I1.hok.fresh M.new
  have fd : H1 d = none := I1.hok.fresh M.dbig
  have fe2 : (upd H1 d (.xd [(fld, v)])) e = none := by rw [upd_ne (Ne.symm M.dne)]; exact fe
  have J2 : Inv X pins σ (upd (upd H1 d (.xd [(fld, v)])) e (ExD (.ref C) e d)) ⟨h', g, dr, tk', os⟩ := by
    refine J.laidN (h' := h') (t' := tk') (fun b o z => ?_) gone fe2 (exD_ok hoe ⟨hc, hd⟩ hdat)
    by_cases hb : b = e
    · have z' : G'.get? b = some o := z
      rw [hb, gone] at z'
      cases z'
    · exact (same b hb).symm.trans z
  exact ⟨.ref e, _, J2, rfl, q1 d e fd fe M.dne⟩
/-- e.f, e such an error -/
def tFldV (C : Addr) (fld : Str) (te : TE) : TE := fun σ H Q => te σ H fun y H1 => ∃ a d v, y = .ref a ∧ H1 a = some (ExD (.ref C) a d) ∧ H1 d = some (.xd [(fld, v)]) ∧ Q v H1
theorem pe_fldV {fld : Str} {e : Expr} {te : TE} (ga : PySem.W.findIn X.K (.ref C) "__getattribute__" = some (some (.builtin "BaseException.__getattribute__"))) (gg : PySem.W.findIn X.K (.ref C) "__getattr__" = some none)
    (exC : PySem.W.subIn X.K (.ref C) (.type "BaseException") = some true) (hdC : PySem.W.hasDictIn X.K C = true) (noN : PySem.W.findIn X.K (.ref C) fld = some none) (he : PE X e te) (hb : attributeBase e fld X.env (eval e X.env) = eval e X.env := by rfl) :
    PE X (.Attribute e fld pos) (tFldV C fld te) := by
  refine ⟨fun pins s σ H Q I want => ?_⟩
  refine attr_of hb (thn (he.run pins s σ H _ I want) ?_)
  rintro u s1 ⟨y, H1, I1, ry, a, d, v, rfl, ha, hd, q⟩
  cases ry
  obtain ⟨⟨oe, vs, ho, hz, hdt⟩, _, _⟩ := I1.hok a _ ha
  have ox : ObjOk X.prog X.w H1 s1.heap d (.xd [(fld, v)]) := I1.hok d _ hd
  obtain ⟨mA, hns, hr⟩ := ox
  obtain ⟨od, hod, hl⟩ := lookIn_ns hns
  have look : List.lookup fld [(fld, v)] = some v := List.lookup_cons_self
  obtain ⟨u, hu, ru⟩ := RelO.some_of (v := v) (o := mA fld) (by rw [← look]; exact hr fld)
  have J : PySem.W.InstAt s1.heap a oe C (some od) := ⟨ho, hz.1, by unfold PySem.W.notCls; rw [hdt] <;> rfl, by rw [hz.2]; exact hod⟩
  exact HandSPX.exc_get I1.kIn J ga gg exC (PySem.W.findObj_own hdC noN rfl (by rw [hl, hu])) (handed_of ru) ⟨v, H1, I1.tok _, ru, q⟩
end
end Gd
/-! a def held by a local name, called where what it raises is caught; isinstance of a caught error that has fields -/
namespace Gd
open PySem PySem.Spec PyProof.Rows L2
section
variable {X : Cx} {CX : CXT} {k i : Nat} {f : Addr} {fd : FuncData} {ps : List Str} {sp : Sp} {E : L2.St → XK} {x : Str} {p pos : Pos} {e : Expr} {es : List Expr} {t : TA}
def tCallLS (i : Nat) (f : Addr) (sp : Sp) (E : L2.St → XK) (t : TA) : TE := fun σ H Q => σ[i]? = some (some (.ref f)) ∧ t σ H fun vs H1 => sp vs H1 Q (E σ)
theorem pe_callLS (F : FnOk X.prog X.w X.K X.mg X.base CX k f fd ps sp) (hr : Room k X.A) (hN : X.N[i]? = some x) (hv : Vis X.env.scope x) (hk : PySem.W.keepIn X.K (.ref f) = true) (hb : Binds X.K fd ps []) (hx : ∀ σ, PassesAt CX X σ (E σ)) (ha : PA X (e :: es) t)
    (hdb : (x == ("__debug__" : Str)) = false := by decide) (hcd : (x == ("__classdict__" : Str)) = false := by decide)
    (he : starEach (e :: es) X.env = (false, eval e X.env) :: starEach es X.env := by rfl) (hpl : (backTo pos (starEach es X.env)).any (·.1) = false := by rfl) : PE X (.Call (.Name x p) (e :: es) [] pos) (tCallLS i f sp E t) := by
  refine ⟨?_⟩
  rintro pins s σ H Q I ⟨slot, want⟩
  have name := (pe_var (pos := p) hN hv hdb hcd).run pins s σ H (fun v G => v = .ref f ∧ G = H) I ⟨.ref f, slot, rfl, rfl⟩
  refine wpAny_Call_Name_kw (thn name ?_)
  rintro u s1 ⟨v, H1, I1, r1, rfl, rfl⟩
  cases r1
  refine PySem.W.callWith_K (h₀ := X.base) I.ok.mod.kin hk (thn (ha.run pos pins s1 σ _ _ I1 want) ?_) he hpl
  rintro us s2 ⟨vs, H2, I2, r2, q2⟩
  exact ⟨I2.kIn, run_fnS F hr hb (hx σ) I2 r2 q2⟩
end
/-- what isinstance asks of the class of an error -/
structure ExcD (K : PySem.W.Frag) (D : Addr) : Prop where
  cl : (PySem.W.clsIn K D).isSome = true
  ga : PySem.W.findIn K (.ref D) "__getattribute__" = some (some (.builtin "BaseException.__getattribute__"))
  gg : PySem.W.findIn K (.ref D) "__getattr__" = some none
  sb : PySem.W.subIn K (.ref D) (.type "BaseException") = some true
  ca : PySem.W.findIn K (.ref D) "__class__" = some (some (.builtin "object.__class__"))
  cg : PySem.W.specialIn K (.builtin "object.__class__") "__get__" = some (some (.builtin "getset_descriptor.__get__"))
  ct : PySem.W.takesIn K (.builtin "object.__class__") = some true
  co : PySem.W.mroIn K D (.type "object") = some true
section
variable {X : Cx} {a D : Addr} {oe : Obj} {d : Option Addr} {pn : List (Addr × Obj)}
theorem inst_of {pins : List (Addr × Obj)} {σ : L2.St} {H : Hp} {s : Shared} {dd : Addr} {fs : List (Str × V)} (I : Inv (X.suite a ((a, oe) :: pn)) pins σ H s) (hz : Zc (.ref D) d oe) (hf : ∃ vs, oe.data = .fields vs) (ed : d = some dd) (hx : H dd = some (.xd fs)) :
    ∃ od, PySem.W.InstAt s.heap a oe D (some od) := by
  obtain ⟨get, _⟩ := I.pin (a, oe) (List.mem_append_left _ List.mem_cons_self)
  obtain ⟨vs, hd⟩ := hf
  have ox : ObjOk X.prog X.w H s.heap dd (.xd fs) := I.hok dd _ hx
  obtain ⟨mA, hns, _⟩ := ox
  obtain ⟨od, ho, _⟩ := lookIn_ns hns
  subst ed
  exact ⟨od, get, hz.1, by unfold PySem.W.notCls; rw [hd] <;> rfl, by rw [hz.2]; exact ho⟩
def rIsX (K : PySem.W.Frag) (D a : Addr) (cls : Value) (d : Option Addr) : List V → Hp → VK → Prop := fun xs H Q => ∃ (c : V) (u : Value) (b : Bool) (dd : Addr) (fs : List (Str × V)), xs = [.ref a, c] ∧ cls = .ref D ∧ ClsV c u ∧ d = some dd ∧ H dd = some (.xd fs) ∧ PySem.W.kitOne K (.ref D) u = some b ∧ Q (.bl b) H
theorem call_isX {cls : Value} (C : ExcD X.K D) (hz : Zc cls d oe) (hf : ∃ vs, oe.data = .fields vs) : CallR (X.suite a ((a, oe) :: pn)) (.builtin "isinstance") (rIsX X.K D a cls d) := by
  intro pins s σ H xs us Q I r want
  obtain ⟨c, u, b, dd, fs, rfl, ec, kc, ed, hx, e, q⟩ := want
  subst ec
  obtain ⟨u1, u2, rfl, r1, r2⟩ := vals2 r
  cases r1
  have e2 := kc.eq r2
  subst e2
  obtain ⟨od, J⟩ := inst_of I hz hf ed hx
  exact PySem.W.kia_one (PySem.W.kitx_exc C.cl C.ga C.gg C.sb C.ca C.cg C.ct C.co) I.kIn J e (fun z => nomatch z) fun tk => ⟨.bl b, H, I.tok tk, rfl, q⟩
def rIsXT (K : PySem.W.Frag) (D a : Addr) (cls : Value) (d : Option Addr) : List V → Hp → VK → Prop := fun xs H Q => ∃ (tp : Addr) (cs : List V) (us : List Value) (b : Bool) (dd : Addr) (fs : List (Str × V)), xs = [.ref a, .ref tp] ∧ cls = .ref D ∧ H tp = some (.tup cs) ∧ Paired ClsV cs us ∧ d = some dd ∧ H dd = some (.xd fs) ∧
  PySem.W.kitAny K (.ref D) us = some b ∧ Q (.bl b) H
theorem call_isXT {cls : Value} (C : ExcD X.K D) (hz : Zc cls d oe) (hf : ∃ vs, oe.data = .fields vs) : CallR (X.suite a ((a, oe) :: pn)) (.builtin "isinstance") (rIsXT X.K D a cls d) := by
  intro pins s σ H xs us Q I r want
  obtain ⟨tp, cs, ws, b, dd, fs, rfl, ec, hT, kc, ed, hx, e, q⟩ := want
  subst ec
  obtain ⟨u1, u2, rfl, r1, r2⟩ := vals2 r
  cases r1
  cases r2
  obtain ⟨od, J⟩ := inst_of I hz hf ed hx
  obtain ⟨_, its, rv, o, h1, h2, n, h3⟩ := (show ObjOk X.prog X.w H s.heap tp (.tup cs) from I.hok tp _ hT)
  have e3 := ClsV.all kc rv
  subst e3
  obtain ⟨oc, od2, dt, sl⟩ := o
  simp only at h2 h3
  subst h2 h3
  exact PySem.W.kia_tup (PySem.W.kitx_exc C.cl C.ga C.gg C.sb C.ca C.cg C.ct C.co) I.kIn J h1 e (fun z => nomatch z) fun tk => ⟨.bl b, H, I.tok tk, rfl, q⟩
end
end Gd
/-! several except clauses that all name the error; a def with a star parameter called in such a try -/
namespace Gd
open PySem PySem.Spec PyProof.Rows L2
abbrev Su : Type := Addr → Value → Option Addr → TS
/-- behind a suite the clause's name is gone -/
def goneEnds (i : Nat) (D : Ends) : Ends := { nx := fun σ G => D.nx (σ.set i none) G, rt := D.rt, bk := fun σ G => D.bk (σ.set i none) G, ct := fun σ G => D.ct (σ.set i none) G }
def wCl (K : PySem.W.Frag) (i : Nat) (D : Ends) (W0 : WX) : List (Value × Su) → WX
  | [] => W0
  | q :: r => fun cls d σ G => ∃ b, PySem.W.exmOne K cls q.1 = some b ∧ (b = true → ∀ a, G a = none → q.2 a cls d (goneEnds i D) (σ.set i (some (.ref a))) G) ∧ (b = false → wCl K i D W0 r cls d σ G)
inductive Cls2 (X : Cx) (n : Str) : List ExceptHandler → List (Value × Su) → Prop
  | stop : Cls2 X n [] []
  | more {x : Str} {c : Value} {t : Su} {b : Stmt} {bs : List Stmt} {p q : Pos} {hs : List ExceptHandler} {l : List (Value × Su)} (nm : Names X x c)
      (su : ∀ (a : Addr) (o : Obj) (cls : Value) (d : Option Addr) (pn : List (Addr × Obj)), Zc cls d o → (∃ vs, o.data = .fields vs) → PSs (X.suite a ((a, o) :: pn)) (b :: bs) (t a cls d)) (r : Cls2 X n hs l) :
      Cls2 X n (.ExceptHandler (some (.Name x p)) (some n) (b :: bs) q :: hs) ((c, t) :: l)
section
variable {X : Cx} {body : List Stmt} {e0 : ExceptHandler} {es : List ExceptHandler} {l : List (Value × Su)} {pos : Pos} {tb : WX → TS} {W0 : WX} {n : Str} {i : Nat}
/-- an error that has landed in the def goes through the clauses -/
theorem clauses {pins : List (Addr × Obj)} {D : Ends} {a : Addr} {s' : Shared} {σ1 : L2.St} {H1 : Hp} {cls : Value} {d : Option Addr} {h3 : Heap}
    (hN : X.N.Nodup) (hi : X.N[i]? = some n) (hl : X.env.kindOf n = some .local)
    (land : ∀ {hs : List ExceptHandler} {x : Str} {c : Value} {t : Su} {b : Stmt} {bs : List Stmt} {p q : Pos} {y : Bool}, Names X x c → PySem.W.exmOne X.K cls c = some y →
      (∀ (o : Obj) (pn : List (Addr × Obj)), Zc cls d o → (∃ vs, o.data = .fields vs) → PSs (X.suite a ((a, o) :: pn)) (b :: bs) (t a cls d)) →
      (y = true → t a cls d (goneEnds i D) (σ1.set i (some (.ref a))) H1) → (y = false → wpAny (model X.prog X.w) X.A (handleBy (.ref a) X.env hs) (SP X pins D) X.xe { s' with heap := h3 }) →
      wpAny (model X.prog X.w) X.A (handleBy (.ref a) X.env (.ExceptHandler (some (.Name x p)) (some n) (b :: bs) q :: hs)) (SP X pins D) X.xe { s' with heap := h3 })
    (na : H1 a = none) (out : W0 cls d σ1 H1 → wpAny (model X.prog X.w) X.A (handleBy (.ref a) X.env []) (SP X pins D) X.xe { s' with heap := h3 })
    {hs : List ExceptHandler} {m : List (Value × Su)} (C : Cls2 X n hs m) : wCl X.K i D W0 m cls d σ1 H1 → wpAny (model X.prog X.w) X.A (handleBy (.ref a) X.env hs) (SP X pins D) X.xe { s' with heap := h3 } := by
  induction C with
  | stop => exact out
  | more nm su r ih =>
    rintro ⟨y, ey, yes, no⟩
    exact land nm ey (fun o pn z f => su a o cls d pn z f) (fun e => yes e a na) (fun e => ih (no e))
theorem ps_try_cl (hs : X.stack = X.env :: X.outer) (hf : X.env.frame = some X.env.locals) (hN : X.N.Nodup) (hi : X.N[i]? = some n) (hl : X.env.kindOf n = some .local) (tk : Takes X W0)
    (hb : ∀ (W : WX) (pn : List (Addr × Obj)) (xe : Value → Shared → Prop), Takes (X.tr pn xe) W → PassesOwn (model X.prog X.w) X.A X.env xe → PSs (X.tr pn xe) body (tb W)) (C : Cls2 X n (e0 :: es) l) :
    PS X (.Try body (e0 :: es) [] [] pos) (fun D σ H => tb (wCl X.K i D W0 l) D σ H) := by
  refine ⟨fun pins s σ H D I want => ?_⟩
  have iok := I.ok
  have frame : X.A.frames = some (X.env :: X.outer) := by rw [iok.frames, hs]
  refine wpAny_Try_except (wpAny_mono ((hb (wCl X.K i D W0 l) (X.pn ++ pins) _ ?took PassesOwn.looking).run [] s σ H D (I.toTry _) want) ?ends fun _ _ z => z)
  case ends =>
    intro f s1 sp
    cases f with
    | next => exact let ⟨σ1, H1, J, q⟩ := sp; wpAny_execs_nil ⟨σ1, H1, J.ofTry iok, q⟩
    | brk => exact let ⟨σ1, H1, J, q⟩ := sp; ⟨σ1, H1, J.ofTry iok, q⟩
    | cont => exact let ⟨σ1, H1, J, q⟩ := sp; ⟨σ1, H1, J.ofTry iok, q⟩
    | ret u => exact let ⟨v, σ1, H1, J, r, q⟩ := sp; ⟨v, σ1, H1, J.ofTry iok, r, q⟩
  case took =>
    rintro u s' ⟨a, B, sI, _, σ1, H1, cls, d, rfl, J0, nb, up, sky, na, os, ag, wish⟩
    have J := J0.ofTry iok
    have sky1 : Sky B (X.env :: X.outer) a (Zc cls d) X.env.locals s'.heap := hs ▸ sky
    refine Sky.land Zc.steady frame hf sky1 fun h3 fl up3 => ?_
    have J3 : Inv X pins σ1 H1 { s' with heap := h3 } := J.landed nb fl.1 (up.trans up3) os ag
    obtain ⟨o3, v3, g3, z3, d3⟩ := fl.there
    have far : a ∉ frs (X.env :: X.outer) := fun m => by
      obtain ⟨_, o, e, nf⟩ := fl.2.2.1.mem m
      cases g3.symm.trans e
      exact nf _ d3
    have far1 : a ≠ X.env.locals := fun z => far (List.mem_filterMap.mpr ⟨X.env, List.mem_cons_self, z ▸ hf⟩)
    have far2 : a ∉ X.fs := fun m => let ⟨e, he, q⟩ := List.mem_filterMap.mp m; far (List.mem_filterMap.mpr ⟨e, List.mem_cons_of_mem _ he, q⟩)
    refine clauses hN hi hl ?land na ?out C wish
    case out =>
      intro w0
      refine wpAny_handleBy_nil ?_
      obtain ⟨_, _, _, _, _, T, _, _, he, _, hd, h1, _⟩ := id fl
      unfold PySem.passOn
      refine wpAny_bind (wpAny_field he hd h1 ?_)
      rw [if_neg (show ¬ ((Value.ref T == Value.none) = true) from by simp)]
      have fin : wpAny (model X.prog X.w) X.A (setFlight (.ref a) X.env.frame) (fun _ t => wpAny (model X.prog X.w) X.A (throw (.ref a) : Sem Flow) (SP X pins D) X.xe t) X.xe { s' with heap := h3 } := by
        rw [hf]
        exact HandSPX.setFlight_upZ fl fun h4 k4 up4 => wpAny_throw (tk _ _ ⟨a, B, sI, pins, σ1, H1, cls, d, rfl, J, nb, (up.trans up3).trans up4, .inr (.inr (hs ▸ k4)), na, os, ag, w0⟩)
      first | exact wpAny_bind (wpAny_pure (wpAny_bind fin)) | exact wpAny_bind fin
    case land =>
      intro hs2 x c t b bs p q y nm ey su yes no
      refine wpAny_handleBy_cons (codeAny_handlers_test ?_) (fun z => by cases z)
      have S3 := J3.suite g3 d3 na far1 far2
      have kind : PySem.W.Looks (model X.prog X.w) h3 (typeOf (.ref a)) cls := fun A Q E r k z => wpAny_typeOf_ref (k _ _ g3) (by rw [z3.1]; exact z)
      have said := PySem.W.exm_one (M := model X.prog X.w) J3.kIn kind ey
      have name : ∀ {Q E : Value → Shared → Prop}, Q c { s' with heap := h3 } → wpAny (model X.prog X.w) (X.A.mark (some (.ref a))) (eval (.Name x p) X.env) Q E { s' with heap := h3 } := fun {Q E} z => by
        obtain ⟨g, db, m | ⟨m, v, nn⟩⟩ := nm
        · exact ld_glob (X := X.suite a ((a, o3) :: (X.pn ++ pins))) S3 g m z db
        · exact ld_blt (X := X.suite a ((a, o3) :: (X.pn ++ pins))) S3 g m v z nn db
      refine name (said.here ?_)
      cases y with
      | false => exact no rfl
      | true =>
        refine codeAny_handlers_suite_as (HandSPX.lands_againZ fl fun h4 fl4 up4 => ?_)
        have J4 : Inv X pins σ1 H1 { s' with heap := h4 } := J.landed nb fl4.1 ((up.trans up3).trans up4) os ag
        obtain ⟨o4, v4, g4, z4, d4⟩ := fl4.there
        refine store_ok (X := X.suite a ((a, o4) :: (X.pn ++ pins))) (v := .ref a) (J4.suite g4 d4 na far1 far2) hN hi (.inl hl) rfl (fun s5 S5 => ?_) (.inr hl)
        refine wpAny_mono ((su o4 (X.pn ++ pins) z4 ⟨_, d4⟩).run [] s5 _ H1 _ S5 (yes rfl)) (fun f s6 sp => ?_) fun _ _ z => z.elim
        have off : ∀ {σ6 : L2.St} {H6 : Hp} {R : Shared → Prop}, Inv (X.suite a ((a, o4) :: (X.pn ++ pins))) [] σ6 H6 s6 → (∀ s7, Inv X pins (σ6.set i none) H6 s7 → R s7) →
            wpAny (model X.prog X.w) X.A (do bindName X.env n .none; unbindBehindTheSuite X.env n q) (fun _ s7 => R s7) X.xe s6 := fun S6 hR => gone_ok (S6.unsuite iok) hN hi hl hR
        cases f with
        | next => exact let ⟨_, _, S6, q6⟩ := sp; off S6 fun _ J7 => ⟨_, _, J7, q6⟩
        | brk => exact let ⟨_, _, S6, q6⟩ := sp; off S6 fun _ J7 => ⟨_, _, J7, q6⟩
        | cont => exact let ⟨_, _, S6, q6⟩ := sp; off S6 fun _ J7 => ⟨_, _, J7, q6⟩
        | ret u => exact let ⟨_, _, _, S6, r6, q6⟩ := sp; off S6 fun _ J7 => ⟨_, _, _, J7, r6, q6⟩
end
/-! ### the call -/
section
variable {X : Cx} {CX : CXT} {k : Nat} {f : Addr} {sp : Sp} {E : L2.St → XK} {x : Str} {p pos : Pos} {e : Expr} {es : List Expr} {t : TA}
theorem run_RS {pins : List (Addr × Obj)} {σ : L2.St} {H : Hp} {s : Shared} {Q : VK} {us : List Value} {vs : List V} (F : FnR X.prog X.w X.K X.mg X.base CX k f sp) (hr : Room k X.A) (hx : PassesAt CX X σ (E σ)) (I : Inv X pins σ H s) (r : Vals vs us) (want : sp vs H Q (E σ)) :
    wpAny (model X.prog X.w) X.A (call (.ref f) us) (EP X pins σ Q) X.xe s := by
  refine wpAny_call (codeAny_mono (F X.A X.stack s H us vs Q (E σ) hr I.env0 r want) ?_)
  intro r s' h
  cases r with
  | error e => exact hx pins H s e s' I h
  | ok fl => cases fl with
    | ret u => exact I.after h
    | _ => exact False.elim h
def tCallRS (sp : Sp) (E : L2.St → XK) (t : TA) : TE := fun σ H Q => t σ H fun vs H1 => sp vs H1 Q (E σ)
def tCallRS0 (sp : Sp) (E : L2.St → XK) : TE := fun σ H Q => sp [] H Q (E σ)
theorem pe_callRS (F : FnR X.prog X.w X.K X.mg X.base CX k f sp) (hr : Room k X.A) (hg : Gl X x) (hm : X.mg x = some (.ref f)) (hk : PySem.W.keepIn X.K (.ref f) = true) (hx : ∀ σ, PassesAt CX X σ (E σ)) (ha : PA X (e :: es) t)
    (hdb : (x == ("__debug__" : Str)) = false := by decide) (he : starEach (e :: es) X.env = (false, eval e X.env) :: starEach es X.env := by rfl) (hpl : (backTo pos (starEach es X.env)).any (·.1) = false := by rfl) :
    PE X (.Call (.Name x p) (e :: es) [] pos) (tCallRS sp E t) := by
  refine ⟨fun pins s σ H Q I want => ?_⟩
  refine wpAny_Call_Name_kw (ld_glob I hg hm ?_ hdb)
  refine PySem.W.callWith_K (h₀ := X.base) I.ok.mod.kin hk (thn (ha.run pos pins s σ H _ I want) ?_) he hpl
  rintro us s1 ⟨vs, H1, I1, r, q⟩
  exact ⟨I1.kIn, run_RS F hr (hx σ) I1 r q⟩
theorem pe_callRS0 (F : FnR X.prog X.w X.K X.mg X.base CX k f sp) (hr : Room k X.A) (hg : Gl X x) (hm : X.mg x = some (.ref f)) (hk : PySem.W.keepIn X.K (.ref f) = true) (hx : ∀ σ, PassesAt CX X σ (E σ)) (hdb : (x == ("__debug__" : Str)) = false := by decide) :
    PE X (.Call (.Name x p) [] [] pos) (tCallRS0 sp E) := by
  refine ⟨fun pins s σ H Q I want => ?_⟩
  refine wpAny_Call_Name_kw (ld_glob I hg hm ?_ hdb)
  exact PySem.W.callWith_K0 I.kIn hk (run_RS F hr (hx σ) I .nil want)
end
/-! ### raise X(); isinstance of the error that a suite holds, with an own dict or without -/
section
variable {X : Cx} {C : Addr} {x : Str} {p pos : Pos}
theorem pmk0 {bmB : List Value} {B newId initId : String} (F : ExcBaseFacts B newId initId bmB) (q : PySem.W.excIn X.K C bmB newId = true) (gC : X.mg x = some (.ref C)) (kC : PySem.W.keepIn X.K (.ref C) = true) (r : Raises X (.ref C)) (hg : Gl X x)
    (hdb : (x == ("__debug__" : Str)) = false := by decide) : PMk X (.Call (.Name x p) [] [] pos) (fun _ H Q => Q (.ref C) none H) := by
  intro pins s σ H Q I want
  refine wpAny_Call_Name_kw (ld_glob I hg gC ?_ hdb)
  refine PySem.W.callWith_K0 I.kIn kC ?_
  obtain ⟨bm, N, nm, qn, bs, hdct, sn, sub, ab, col, dd, k0, k1, k2, k3, k5, mN, hC, hN, hni, T⟩ := exc_obj I.kIn q
  refine wpAny_call_exc_subT F T hC hN hni (fun h' a made => ?_) (by show 0 ≤ sizeLine; exact Nat.zero_le _)
  exact mk_of I made r want (I.hok.gone made.new)
end
section
variable {X : Cx} {a D : Addr} {oe : Obj} {d : Option Addr} {pn : List (Addr × Obj)}
def DOk (H : Hp) (d : Option Addr) : Prop := d = none ∨ ∃ dd fs, d = some dd ∧ H dd = some (.xd fs)
theorem inst_ofZ {pins : List (Addr × Obj)} {σ : L2.St} {H : Hp} {s : Shared} (I : Inv (X.suite a ((a, oe) :: pn)) pins σ H s) (hz : Zc (.ref D) d oe) (hf : ∃ vs, oe.data = .fields vs) (k : DOk H d) : ∃ od, PySem.W.InstAt s.heap a oe D od := by
  rcases k with rfl | ⟨dd, fs, rfl, hx⟩
  · obtain ⟨get, _⟩ := I.pin (a, oe) (List.mem_append_left _ List.mem_cons_self)
    obtain ⟨vs, hd⟩ := hf
    exact ⟨none, get, hz.1, by unfold PySem.W.notCls; rw [hd] <;> rfl, by rw [hz.2]; trivial⟩
  · obtain ⟨od, J⟩ := inst_of I hz hf rfl hx
    exact ⟨_, J⟩
def rIsZ (K : PySem.W.Frag) (D a : Addr) (cls : Value) (d : Option Addr) : List V → Hp → VK → Prop := fun xs H Q => ∃ (c : V) (u : Value) (b : Bool), xs = [.ref a, c] ∧ cls = .ref D ∧ ClsV c u ∧ DOk H d ∧ PySem.W.kitOne K (.ref D) u = some b ∧ Q (.bl b) H
theorem call_isZ {cls : Value} (C : ExcD X.K D) (hz : Zc cls d oe) (hf : ∃ vs, oe.data = .fields vs) : CallR (X.suite a ((a, oe) :: pn)) (.builtin "isinstance") (rIsZ X.K D a cls d) := by
  intro pins s σ H xs us Q I r want
  obtain ⟨c, u, b, rfl, ec, kc, kd, e, q⟩ := want
  subst ec
  obtain ⟨u1, u2, rfl, r1, r2⟩ := vals2 r
  cases r1
  have e2 := kc.eq r2
  subst e2
  obtain ⟨od, J⟩ := inst_ofZ I hz hf kd
  exact PySem.W.kia_one (PySem.W.kitx_exc C.cl C.ga C.gg C.sb C.ca C.cg C.ct C.co) I.kIn J e (fun z => nomatch z) fun tk => ⟨.bl b, H, I.tok tk, rfl, q⟩
def rIsZT (K : PySem.W.Frag) (D a : Addr) (cls : Value) (d : Option Addr) : List V → Hp → VK → Prop := fun xs H Q => ∃ (tp : Addr) (cs : List V) (us : List Value) (b : Bool), xs = [.ref a, .ref tp] ∧ cls = .ref D ∧ H tp = some (.tup cs) ∧ Paired ClsV cs us ∧ DOk H d ∧
  PySem.W.kitAny K (.ref D) us = some b ∧ Q (.bl b) H
theorem call_isZT {cls : Value} (C : ExcD X.K D) (hz : Zc cls d oe) (hf : ∃ vs, oe.data = .fields vs) : CallR (X.suite a ((a, oe) :: pn)) (.builtin "isinstance") (rIsZT X.K D a cls d) := by
  intro pins s σ H xs us Q I r want
  obtain ⟨tp, cs, ws, b, rfl, ec, hT, kc, kd, e, q⟩ := want
  subst ec
  obtain ⟨u1, u2, rfl, r1, r2⟩ := vals2 r
  cases r1
  cases r2
  obtain ⟨od, J⟩ := inst_ofZ I hz hf kd
  obtain ⟨_, its, rv, o, h1, h2, n, h3⟩ := (show ObjOk X.prog X.w H s.heap tp (.tup cs) from I.hok tp _ hT)
  have e3 := ClsV.all kc rv
  subst e3
  obtain ⟨oc, od2, dt, sl⟩ := o
  simp only at h2 h3
  subst h2 h3
  exact PySem.W.kia_tup (PySem.W.kitx_exc C.cl C.ga C.gg C.sb C.ca C.cg C.ct C.co) I.kIn J h1 e (fun z => nomatch z) fun tk => ⟨.bl b, H, I.tok tk, rfl, q⟩
end
end Gd
namespace PySem
namespace NotAlikeX
open PySem.W PySem.Calls PyProof.Rows PySem.HandSPX
abbrev exTl : List Value := [.type "ValueError", .type "Exception", .type "BaseException", .type "object"]
/-! ### the text of __init__ -/
def iA (p1 p2 : Pos) : Arguments := { posonlyargs := [], args := [{ arg := "self", annotation := none, pos := p1 }, { arg := "index", annotation := none, pos := p2 }], vararg := none, kwonlyargs := [], kw_defaults := [], kwarg := none, defaults := [] }
def iB (q1 q2 q3 q4 : Pos) : List Stmt := [.Assign [.Attribute (.Name "self" q1) "index" q2] (.Name "index" q3) q4]
def iS : Scope := { kind := .function, names := [(PySem.Str.ofString "self", .local), (PySem.Str.ofString "index", .local)], isGenerator := false, isCoroutine := false, more := [] }
/-- what the written part says of Low, at C, and of its __init__, at fI -/
structure NotAlikeTxt (K : Frag) (mg : Str → Option Value) (C fI : Addr) : Prop where
  gC : mg "NotAlike" = some (.ref C)
  cls : ∃ nm q N bs bm sn sub ab col dd k0 k1 k2 k3 k5, K.lookup C = some (excClassObj nm q C N bs bm true sn sub ab col dd k0 k1 k2 k3 k5 "ValueError.__new__") ∧ excTail exTl bm = true
  sa : findIn K (.ref C) "__setattr__" = some (some (.builtin "object.__setattr__"))
  ga : findIn K (.ref C) "__getattribute__" = some (some (.builtin "BaseException.__getattribute__"))
  gg : findIn K (.ref C) "__getattr__" = some none
  noN : findIn K (.ref C) "index" = some none
  iC : findIn K (.ref C) "__init__" = some (some (.ref fI))
  tC : typeIn K (.ref fI) = some (.type "function")
  kC : keepIn K (.ref C) = true
  exC : subIn K (.ref C) (.type "BaseException") = some true
  tyC : typeIn K (.ref C) = some (.type "type")
  hdC : hasDictIn K C = true
  te : exmOne K (.ref C) (.ref C) = some true
  fn : ∃ (oc : Value) (od : Option Addr) (doc pm : Value) (an : Option Addr) (cdv ct : Value) (osl : Array (Option Value)) (p1 p2 q1 q2 q3 q4 : Pos),
    K.lookup fI = some ⟨oc, od, .func (fnOf "__init__" "NotAlike.__init__" (iA p1 p2) (iB q1 q2 q3 q4) iS .none .none doc pm an cdv ct), osl⟩ ∧ codeIn K cdv "NotAlike.__init__" = true
theorem one_size (v : Value) : [v].length ≤ sizeLine := by
  rw [sizeLine_eq]
  exact (by decide : 1 ≤ 16777216)
theorem kept_but {K : Frag} {h h' : Heap} {x : Addr} (X : K.In h) (hx : K.lookup x = none) (k : ∀ b o, b ≠ x → h.get? b = some o → h'.get? b = some o) : K.In h' := fun a o e =>
  k a o (fun z => by rw [z, hx] at e; cases e) (X a o e)
theorem ldC {M : Model} {s : Shared} {name : Str} {scope : Scope} {L a : Addr} {cd : Value} {m : Str → Option Value} {x : Str} {pos : Pos} {v : Value} {Q : Value → Shared → Prop} {A : Around} {E : Value → Shared → Prop} (hn : s.heap.Ns L m) (hv : m x = some v) (h : Q v s)
    (hk : scope.kind = .function := by rfl) (hl : (envOfC name scope L a cd).kindOf x = some .local := by rfl) (hd : (x == ("__debug__" : Str)) = false := by decide) :
    wpAny M A (eval (.Name x pos) (envOfC name scope L a cd)) Q E s := wpAny_Name (wpAny_loadName_local hk hl hn hv h) hd
/-- what __init__ leaves of a fresh exception at x -/
structure InitEnd (h h' : Heap) (x C dx t1 : Addr) (v : Value) : Prop where
  keep : ∀ b o, b ≠ x → h.get? b = some o → h'.get? b = some o
  obj : h'.get? x = some { cls := .ref C, dict := some dx, data := .fields #[.ref t1, .none, .none, .none, .bool false, .none] }
  dbig : h.objs.size ≤ dx
  dne : dx ≠ x
  ns : h'.Ns1 dx (fun y => if y = "index" then some v else none)
/-- a made Low -/
structure OwnMade (h h' : Heap) (e C d : Addr) (v : Value) : Prop where
  keep : ∀ b o, h.get? b = some o → h'.get? b = some o
  new : h.objs.size ≤ e
  obj : ∃ oe vs, h'.get? e = some oe ∧ oe.cls = .ref C ∧ oe.dict = some d ∧ oe.data = .fields vs ∧ vs[1]? = some .none
  dbig : h.objs.size ≤ d
  dne : d ≠ e
  ns : h'.Ns1 d (fun y => if y = "index" then some v else none)
section
variable {prog : Program} {w : World} {A : Around} {E : Value → Shared → Prop} {R : Result → Shared → Prop} {s : Shared} {K : Frag} {mg : Str → Option Value} {C fI : Addr}
theorem index_init (T : NotAlikeTxt K mg C fI) {x t0 : Addr} {v : Value} (X : K.In s.heap) (hlim : s.heap.NoLimit) (hx : s.heap.get? x = some (excO C t0)) (hnx : K.lookup x = none) (hroom : A.depth < recursionLimit)
    (hq : ∀ h' tk dx, InitEnd s.heap h' x C dx t0 v → R (.ok (.ret .none)) { s with heap := h', toks := tk }) :
    codeAny (model prog w) A (.call (.ref fI) ⟨[.ref x, v], []⟩) R s := by
  obtain ⟨oc, od, doc, pm, an, cdv, ct, osl, p1, p2, q1, q2, q3, q4, ho, hcd⟩ := T.fn
  obtain ⟨nm, q, N, bs, bm, sn, sub, ab, col, dd, k0, k1, k2, k3, k5, hC, hbm⟩ := T.cls
  have hcl : clsIn K C = some { name := nm, bases := bs, mro := .ref C :: bm, ns := N, qualname := q, hasDict := true, slotNames := sn, subclasses := sub, abstract := ab, collection := col, hasDel := false } := by unfold clsIn; rw [hC] <;> rfl
  refine Att.call_fn (binds := [("self", .ref x), ("index", v)]) X hlim ho hcd hroom (BindsTo.of_eq (by first | rfl | with_unfolding_all rfl)) (by first | rfl | decide | with_unfolding_all rfl) (fun s₁ IC => ?_) rfl rfl rfl
  obtain ⟨h₁, tk₁, rfl⟩ := IC.toInCall.same
  have k : ∀ b o, s.heap.get? b = some o → h₁.get? b = some o := IC.toInCall.keep
  have hn := IC.toInCall.ns
  have hxL : s.heap.objs.size ≠ x := Nat.ne_of_gt (Heap.lt_size hx)
  have X₁ : K.In h₁ := X.keeps k
  have hx₁ := k _ _ hx
  -- self.by = by
  show wpAny _ _ (execs _ _) _ _ _
  refine wpAny_execs_cons (plainObj_wpAny_Assign_Attribute ?_)
  refine ldC (v := v) hn (by first | rfl | with_unfolding_all rfl | kernel_rfl) (ldC (v := .ref x) hn (by first | rfl | with_unfolding_all rfl | kernel_rfl) ?_)
  refine set_plain X₁ (ox := excO C t0) (od := none) ⟨hx₁, rfl, rfl, trivial⟩ T.sa ?_
  refine Gd.osaX (fun self => F.store_ValueError.passes self) (by decide +kernel) X₁ hx₁ hcl (show excTail exTl (.ref C :: bm) = true from hbm) rfl T.noN (fun h₃ tk₃ dx k₃ dn dne hx₃ hn₃ => ?_)
  show wpAny _ _ (execs _ _) _ _ _
  have z : s.heap.objs.size < h₁.objs.size := hn.lt
  exact wpAny_execs_nil (hq h₃ tk₃ dx ⟨fun b o hb e => k₃ b o hb (k b o e), hx₃, Nat.le_of_lt (Nat.lt_of_lt_of_le z dn), dne, hn₃⟩)
theorem index_made (T : NotAlikeTxt K mg C fI) {v : Value} (X : K.In s.heap) (hlim : s.heap.NoLimit) (hroom : A.depth + 1 < recursionLimit)
    (hq : ∀ h' tk e d, OwnMade s.heap h' e C d v → R (.ok (.ret (.ref e))) { s with heap := h', toks := tk }) :
    codeAny (model prog w) A (.call (.ref C) ⟨[v], []⟩) R s := by
  obtain ⟨nm, q, N, bs, bm, sn, sub, ab, col, dd, k0, k1, k2, k3, k5, hC, hbm⟩ := T.cls
  obtain ⟨hp, g, dr, tk, os⟩ := s
  have k : ∀ b o, hp.get? b = some o → ((hp.push (kdv_tup [v])).push (excO C hp.objs.size)).get? b = some o := fun b o e => Heap.get?_push_of_some _ (Heap.get?_push_of_some _ e)
  have hget : ((hp.push (kdv_tup [v])).push (excO C hp.objs.size)).get? (hp.objs.size + 1) = some (excO C hp.objs.size) := by heap_get
  have hnx : K.lookup (hp.objs.size + 1) = none := by
    cases e : K.lookup (hp.objs.size + 1) with
    | none => rfl
    | some o =>
      have z : hp.get? (hp.objs.size + 1) = some o := X _ _ e
      exact absurd (Nat.lt_of_succ_lt (Heap.lt_size z)) (Nat.lt_irrefl _)
  refine call_own F.excBase_ValueError (fun X => excTail_contains X bm hbm) (X _ _ hC) (looks_findIn X T.iC) (fun self => bind_fn X self T.tC) (one_size v) ?_
  refine index_init (s := ⟨(hp.push (kdv_tup [v])).push (excO C hp.objs.size), g, dr, tk, os⟩) T (X.keeps k) (hlim.keeps k) hget hnx ?_ fun h' tk' dx ⟨k', hx, dn, dne, hns⟩ => ?_
  · show A.depth + 1 < recursionLimit
    exact hroom
  · have old : ∀ b o, hp.get? b = some o → h'.get? b = some o := fun b o e => k' b o (Nat.ne_of_lt (Nat.lt_succ_of_lt (Heap.lt_size e))) (k b o e)
    have z : hp.objs.size + 1 + 1 ≤ dx := by
      first
        | (simpa only [Heap.size_push] using dn)
        | exact dn
        | (have q := dn; rw [Heap.size_push, Heap.size_push] at q; exact q)
    exact ⟨rfl, hq h' tk' (hp.objs.size + 1) dx ⟨old, Nat.le_succ _, ⟨_, _, hx, rfl, rfl, rfl, rfl⟩, Nat.le_trans (Nat.le_trans (Nat.le_succ _) (Nat.le_succ _)) z, dne, hns⟩⟩
end
end NotAlikeX
end PySem
namespace L2
open PySem PySem.Spec PyProof.Rows
theorem relO_index {v : V} {v' : Value} (r : RelV v v') (f : Str) : RelO (List.lookup f [(("index" : Str), v)]) (if f = "index" then some v' else none) := by
  by_cases hw : f = "index"
  · subst hw
    rw [if_pos rfl]
    have q : List.lookup ("index" : Str) [(("index" : Str), v)] = some v := by simp [List.lookup]
    rw [q]
    exact r
  · rw [if_neg hw]
    have qw : (f == ("index" : Str)) = false := by simpa using hw
    have q2 : List.lookup f [(("index" : Str), v)] = none := by simp [List.lookup, qw]
    rw [q2]
    trivial
section
variable {X : Cx} {C fI : Addr}
/-- Low(e) -/
def tMkNotAlike (C : Addr) (ta : TA) : St → Hp → XK → Prop := fun σ H Q => ta σ H fun vs H1 => ∃ v, vs = [v] ∧ ∀ d, H1 d = none → Q (.ref C) (some d) (upd H1 d (.xd [(("index" : Str), v)]))
theorem pmk_NotAlike {a : Expr} {ta : TA} {p pos : Pos} {k : Nat} (T : PySem.NotAlikeX.NotAlikeTxt X.K X.mg C fI) (hr : Room k X.A) (ha : PA X [a] ta) (hg : Gl X "NotAlike" := by rfl)
    (he : starEach (a :: []) X.env = (false, eval a X.env) :: starEach [] X.env := by rfl) (hpl : (backTo pos (starEach [] X.env)).any (·.1) = false := by rfl) :
    PMk X (.Call (.Name "NotAlike" p) [a] [] pos) (tMkNotAlike C ta) := by
  intro pins s σ H Q I h
  refine wpAny_Call_Name_kw (ld_glob I hg T.gC ?_)
  refine PySem.W.callWith_K (h₀ := X.base) I.ok.mod.kin T.kC (thn (ha.run pos pins s σ H _ I h) fun us s1 hh => ?_) he hpl
  obtain ⟨vs, H1, I1, r1, v, ev, q1⟩ := hh
  subst ev
  refine ⟨I1.kIn, ?_⟩
  cases r1 with
  | cons rv rn =>
    rename_i v' us'
    cases rn
    show wpAny _ _ (call (.ref C) [v']) _ _ _
    have hlim := I1.nolimit
    obtain ⟨hp, g, dr, tk, os⟩ := s1
    refine wpAny_call (PySem.NotAlikeX.index_made T I1.kIn hlim (by have := hr.dp; omega) fun h' tk' e d M => ?_)
    show MkP X pins σ Q (.ref e) ⟨h', g, dr, tk', os⟩
    obtain ⟨oe, fv, hoe, hc, hd, hdat, h1⟩ := M.obj
    have hns := M.ns
    obtain ⟨G', g1, g2⟩ := restrict h' fun b => decide (b ≠ e)
    have gk : ∀ b, b ≠ e → G'.get? b = h'.get? b := fun b hb => g1 b (decide_eq_true hb)
    have ge : G'.get? e = none := g2 e (by simp)
    have old : ∀ b o, hp.get? b = some o → G'.get? b = some o := fun b o q => (gk b (Nat.ne_of_lt (Nat.lt_of_lt_of_le (Heap.lt_size q) M.new))).trans (M.keep b o q)
    have ob : ObjOk X.prog X.w (upd H1 d (.xd [(("index" : Str), v)])) G' d (.xd [(("index" : Str), v)]) :=
      ⟨_, hns.at (fun o q => (gk d M.dne).trans q), fun f => relO_index rv f⟩
    have J : Inv X pins σ (upd H1 d (.xd [(("index" : Str), v)])) ⟨G', g, dr, tk', os⟩ := I1.laid (t' := tk') old M.dbig ob
    refine ⟨e, oe, fv, ⟨G', g, dr, tk', os⟩, _, .ref C, some d, rfl, J, fun b o q => ?_, ge, hoe, ⟨hc, hd⟩, hdat, h1, ?_, rfl, I1.bare, raises_own T.exC T.tyC, q1 d (I1.hok.fresh M.dbig)⟩
    · by_cases hb : b = e
      · have q' : G'.get? b = some o := q
        rw [hb, ge] at q'; cases q'
      · exact (gk b hb).symm.trans q
    · rw [upd_ne (Ne.symm M.dne)]
      exact I1.hok.fresh M.new
/-- raise Low(e) -/
def tRaiseNotAlike (C : Addr) (W : WX) (ta : TA) : TS := fun _ σ H => tMkNotAlike C ta σ H fun cls d H' => W cls d σ H'
theorem ps_raiseNotAlike {a : Expr} {ta : TA} {W : WX} {p pos pos2 : Pos} {k : Nat} (hc : X.calm = true) (T : PySem.NotAlikeX.NotAlikeTxt X.K X.mg C fI) (hr : Room k X.A) (tk : Takes X W) (ha : PA X [a] ta) (hg : Gl X "NotAlike" := by rfl)
    (he : starEach (a :: []) X.env = (false, eval a X.env) :: starEach [] X.env := by rfl) (hpl : (backTo pos (starEach [] X.env)).any (·.1) = false := by rfl) :
    PS X (.Raise (some (.Call (.Name "NotAlike" p) [a] [] pos)) none pos2) (tRaiseNotAlike C W ta) := ps_raise hc tk (pmk_NotAlike T hr ha hg he hpl)
/-- low.by, low the exception that the suite holds (at a; its class cls, its dict d) -/
def tByNotAlike (C : Addr) (a : Addr) (cls : Value) (d : Option Addr) (te : TE) : TE := fun σ H Q => te σ H fun x H1 => x = .ref a ∧ cls = .ref C ∧ ∃ (dd : Addr) (v : V), d = some dd ∧ H1 dd = some (.xd [(("index" : Str), v)]) ∧ Q v H1
theorem pe_byNotAlike {a : Addr} {oe : Obj} {cls : Value} {d : Option Addr} {pn : List (Addr × Obj)} {e : Expr} {te : TE} {pos : Pos} (T : PySem.NotAlikeX.NotAlikeTxt X.K X.mg C fI) (hz : Zc cls d oe) (hf : ∃ vs, oe.data = .fields vs) (he : PE (X.suite a ((a, oe) :: pn)) e te)
    (hb : attributeBase e "index" X.env (eval e X.env) = eval e X.env := by rfl) :
    PE (X.suite a ((a, oe) :: pn)) (.Attribute e "index" pos) (tByNotAlike C a cls d te) := by
  refine ⟨fun pins s σ H Q I h => ?_⟩
  refine attr_of hb (thn (he.run pins s σ H _ I h) fun u s1 hh => ?_)
  obtain ⟨x, H1, I1, rx, ex, ec, dd, v, ed, ea, q⟩ := hh
  subst ex
  obtain rfl : u = Value.ref a := rx
  subst ec
  subst ed
  obtain ⟨ha, _⟩ := I1.pin (a, oe) (List.mem_append_left _ List.mem_cons_self)
  obtain ⟨vs, hd⟩ := hf
  have hx : ObjOk X.prog X.w H1 s1.heap dd (.xd [(("index" : Str), v)]) := I1.hok dd _ ea
  obtain ⟨mA, hns, hr⟩ := hx
  obtain ⟨od, ho, hl⟩ := lookIn_ns hns
  have l : List.lookup ("index" : Str) [(("index" : Str), v)] = some v := by simp [List.lookup]
  obtain ⟨u, hu, ru⟩ := RelO.some_of (v := v) (o := mA "index") (by rw [← l]; exact hr "index")
  have J : PySem.W.InstAt s1.heap a oe C (some od) := ⟨ha, hz.1, by unfold PySem.W.notCls; rw [hd] <;> rfl, by rw [hz.2]; exact ho⟩
  exact HandSPX.exc_get I1.kIn J T.ga T.gg T.exC (PySem.W.findObj_own T.hdC T.noN rfl (by rw [hl, hu])) (handed_of ru) ⟨v, H1, I1.tok _, ru, q⟩
end
end L2
namespace Lw
open PySem PySem.Spec PyProof.Rows L2 Gd
abbrev sWhole : Stmt := topS 7
abbrev sPlace : Stmt := topS 8
abbrev sWin : Stmt := topS 9
abbrev sChkW : Stmt := topS 10
abbrev sLeast : Stmt := topS 11
abbrev sCheck : Stmt := topS 12
abbrev sClaims : Stmt := topS 13
abbrev sLawLeast : Stmt := topS 19
theorem scWhole : FnScope ["value"] ["value"] (defScope sWhole) := ⟨rfl, rfl, rfl, by decide +kernel, rfl, by decide +kernel, by decide +kernel⟩
theorem scPlace : FnScope ["many", "value"] ["many", "value"] (defScope sPlace) := ⟨rfl, rfl, rfl, by decide +kernel, rfl, by decide +kernel, by decide +kernel⟩
theorem scWin : FnScope ["many", "first", "last"] ["many", "first", "last"] (defScope sWin) := ⟨rfl, rfl, rfl, by decide +kernel, rfl, by decide +kernel, by decide +kernel⟩
theorem scChkW : FnScope ["many", "first", "last"] ["many", "first", "last"] (defScope sChkW) := ⟨rfl, rfl, rfl, by decide +kernel, rfl, by decide +kernel, by decide +kernel⟩
theorem scLeast : FnScope ["row", "first", "last", "least", "place"] ["row", "first", "last"] (defScope sLeast) := ⟨rfl, rfl, rfl, by decide +kernel, rfl, by decide +kernel, by decide +kernel⟩
theorem scLawLeast : FnScope ["_law_row_here", "_law_first", "_law_last", "_law_best", "_law_place"] ["_law_row_here", "_law_first", "_law_last"] (defScope sLawLeast) := ⟨rfl, rfl, rfl, by decide +kernel, rfl, by decide +kernel, by decide +kernel⟩
/-! ### what is asked of a value -/
inductive Kd (H : Hp) : V → Prop
  | non : Kd H .non
  | bl (b : Bool) : Kd H (.bl b)
  | int (i : Int) : Kd H (.int i)
  | str (x : Str) : Kd H (.str x)
  | lst {p : Addr} {xs : List V} (e : H p = some (.lst xs)) : Kd H (.ref p)
  | tup {p : Addr} {xs : List V} (e : H p = some (.tup xs)) : Kd H (.ref p)
  | dct {p : Addr} {kvs : List (Key × V)} (e : H p = some (.dK kvs)) : Kd H (.ref p)
theorem Dv.kd {av : Addr → Prop} {H : Hp} {v : V} {d : PyData} (h : Dv av H v d) : Kd H v := by
  cases h with
  | non => exact .non
  | bl b => exact .bl b
  | int i => exact .int i
  | str x => exact .str x
  | lst e _ _ _ => exact .lst e
  | tup e _ _ _ => exact .tup e
  | dct e _ _ => exact .dct e
theorem Kd.keep {H H' : Hp} {v : V} (k : Same H H') (h : Kd H v) : Kd H' v := by
  cases h with
  | non => exact .non
  | bl b => exact .bl b
  | int i => exact .int i
  | str x => exact .str x
  | lst e => exact .lst (k _ _ e)
  | tup e => exact .tup (k _ _ e)
  | dct e => exact .dct (k _ _ e)
def isI : V → Bool
  | .int _ => true
  | _ => false
def isIB : V → Bool
  | .int _ => true
  | .bl _ => true
  | _ => false
def isB : V → Bool
  | .bl _ => true
  | _ => false
def isTu (H : Hp) : V → Bool
  | .ref p => match H p with
    | some (.tup _) => true
    | _ => false
  | _ => false
def plc (m : Int) : V → Bool
  | .int i => decide (0 ≤ i) && decide (i < m)
  | _ => false
def leV : V → V → Bool
  | .int i, .int j => decide (i ≤ j)
  | _, _ => false
def win (m : Int) (f l : V) : Bool := plc m f && (plc m l && leV f l)
theorem plc_int {m : Int} {v : V} (h : plc m v = true) : ∃ i : Nat, v = .int i ∧ (i : Int) < m := by
  cases v with
  | int i =>
    have h' : (decide (0 ≤ i) && decide (i < m)) = true := h
    rw [Bool.and_eq_true] at h'
    have h1 := of_decide_eq_true h'.1
    have h2 := of_decide_eq_true h'.2
    exact ⟨i.toNat, by rw [Int.toNat_of_nonneg h1], by omega⟩
  | _ => cases h
theorem win_ints {m : Int} {f l : V} (h : win m f l = true) : ∃ i j : Nat, f = .int i ∧ l = .int j ∧ i ≤ j ∧ (j : Int) < m := by
  unfold win at h
  rw [Bool.and_eq_true, Bool.and_eq_true] at h
  obtain ⟨i, rfl, hi⟩ := plc_int h.1
  obtain ⟨j, rfl, hj⟩ := plc_int h.2.1
  have h3 : (i : Int) ≤ j := of_decide_eq_true h.2.2
  exact ⟨i, j, rfl, rfl, by omega, hj⟩
/-- the least place among i, .., i + k -/
def best (ns : List Int) (i : Nat) : Nat → Nat
  | 0 => i
  | k + 1 => if ns.getD (i + (k + 1)) 0 < ns.getD (best ns i k) 0 then i + (k + 1) else best ns i k
theorem best_le (ns : List Int) (i : Nat) : ∀ k, i ≤ best ns i k ∧ best ns i k ≤ i + k
  | 0 => ⟨Nat.le_refl _, Nat.le_refl _⟩
  | k + 1 => by
    have ih := best_le ns i k
    simp only [best]
    split <;> omega
def spWhole : Sp := fun vs H Q _ => ∃ v, vs = [v] ∧ Kd H v ∧ Q (.bl (isI v)) H
def spPlace : Sp := fun vs H Q _ => ∃ (m : Int) (v : V), vs = [.int m, v] ∧ Kd H v ∧ Q (.bl (plc m v)) H
def spWin : Sp := fun vs H Q _ => ∃ (m : Int) (f l : V), vs = [.int m, f, l] ∧ Kd H f ∧ Kd H l ∧ ∀ H', Same H H' → Q (.bl (win m f l)) H'
def spChk : Sp := fun vs H Q _ => ∃ (m : Int) (f l : V), vs = [.int m, f, l] ∧ Kd H f ∧ Kd H l ∧ win m f l = true ∧ ∀ H', Same H H' → Q .non H'
def spLeast : Sp := fun vs H Q _ => ∃ (p : Addr) (ns : List Int) (i j : Nat), vs = [.ref p, .int i, .int j] ∧ ns.length ≤ 12 ∧ H p = some (.tup (ns.map V.int)) ∧ i ≤ j ∧ j < ns.length ∧ ∀ H', Same H H' → Q (.int (best ns i (j - i))) H'
def spLawLeast : Sp := fun vs H Q _ => ∃ (p : Addr) (ns : List Int) (i j : Nat), vs = [.ref p, .int i, .int j] ∧ ns.length ≤ 12 ∧ H p = some (.tup (ns.map V.int)) ∧ i ≤ j ∧ j < ns.length ∧ Q (.int (best ns i (j - i))) H
section
variable {P : Program} {w : World} {K : PySem.W.Frag} {mg : Str → Option Value} {base : Heap}
theorem kt {a b : String} {r : Bool} (h : kitB a b = some r) {r' : Bool} (e : r' = r) : PySem.W.kitOne K (.type a) (.type b) = some r' := by
  rw [e]
  exact kit_ty h
theorem ty_int {H : Hp} {v : V} (h : Kd H v) : ∃ t, TyX K H v (.type t) ∧ PySem.W.kitOne K (.type t) (.type "int") = some (isIB v) ∧ PySem.W.kitOne K (.type t) (.type "bool") = some (isB v) ∧ PySem.W.kitOne K (.type t) (.type "tuple") = some (isTu H v) := by
  cases h with
  | non => exact ⟨"NoneType", .base .non, kt (r := false) (by decide +kernel) rfl, kt (r := false) (by decide +kernel) rfl, kt (r := false) (by decide +kernel) rfl⟩
  | bl b => exact ⟨"bool", .base (.bl b), kt (r := true) (by decide +kernel) rfl, kt (r := true) (by decide +kernel) rfl, kt (r := false) (by decide +kernel) rfl⟩
  | int i => exact ⟨"int", .base (.int i), kt (r := true) (by decide +kernel) rfl, kt (r := false) (by decide +kernel) rfl, kt (r := false) (by decide +kernel) rfl⟩
  | str x => exact ⟨"str", .base (.str x), kt (r := false) (by decide +kernel) rfl, kt (r := false) (by decide +kernel) rfl, kt (r := false) (by decide +kernel) rfl⟩
  | lst e => exact ⟨"list", .base (.lst e), kt (r := false) (by decide +kernel) rfl, kt (r := false) (by decide +kernel) rfl, kt (r := false) (by decide +kernel) (by simp only [isTu, e])⟩
  | tup e => exact ⟨"tuple", .base (.tup e), kt (r := false) (by decide +kernel) rfl, kt (r := false) (by decide +kernel) rfl, kt (r := true) (by decide +kernel) (by simp only [isTu, e])⟩
  | dct e => exact ⟨"dict", .base (.dK e), kt (r := false) (by decide +kernel) rfl, kt (r := false) (by decide +kernel) rfl, kt (r := false) (by decide +kernel) (by simp only [isTu, e])⟩
theorem ok_whole {f : Addr} {fd : FuncData} {k : Nat} (F : Fun K "is_whole" "is_whole" sWhole f fd) (mi : mg "isinstance" = none) (mint : mg "int" = none) (mbool : mg "bool" = none) : FnOk P w K mg base CX0 (k + 1) f fd ["value"] spWhole := by
  refine F.ok scWhole (fun vs H Q E h => ?_) (fun cdv A outer st H vs Q E hr h => ?_)
  · obtain ⟨v, rfl, _⟩ := h
    rfl
  · obtain ⟨v, rfl, kd, q⟩ := h
    refine ⟨_, pss_one (ps_ret (pe_and (pe_callB call_isi (by rfl) mi (by decide +kernel) (pa_cons (pv 0) (pa_cons (pe_bltn (v := .ty "int") (by rfl) mint (by decide +kernel) rfl) pa_nil)))
      (pe_one (pe_not (pe_callB call_isi (by rfl) mi (by decide +kernel) (pa_cons (pv 0) (pa_cons (pe_bltn (v := .ty "bool") (by rfl) mbool (by decide +kernel) rfl) pa_nil))))))), ?_⟩
    obtain ⟨t, ty, k1, k2, _⟩ := ty_int (K := K) kd
    refine ⟨v, rfl, v, .ty "int", .type t, .type "int", _, rfl, .ty _, ty, k1, _, rfl, ite2 (fun e => ?_) (fun e => ?_)⟩
    · refine ⟨v, rfl, v, .ty "bool", .type t, .type "bool", _, rfl, .ty _, ty, k2, _, rfl, ?_⟩
      cases kd with
      | bl b => exact q
      | int i => exact q
      | _ => cases e
    · cases kd with
      | bl b => exact absurd rfl e
      | int i => exact absurd rfl e
      | _ => exact q
theorem ok_place {f fW : Addr} {fd fdW : FuncData} {k : Nat} (F : Fun K "is_place" "is_place" sPlace f fd) (GW : FnOk P w K mg base CX0 k fW fdW ["value"] spWhole) (kW : PySem.W.keepIn K (.ref fW) = true) (bW : Binds K fdW ["value"] [])
    (gW : mg "is_whole" = some (.ref fW)) : FnOk P w K mg base CX0 (k + 1) f fd ["many", "value"] spPlace := by
  refine F.ok scPlace (fun vs H Q E h => ?_) (fun cdv A outer st H vs Q E hr h => ?_)
  · obtain ⟨m, v, rfl, _⟩ := h
    rfl
  · obtain ⟨m, v, rfl, kd, q⟩ := h
    refine ⟨_, pss_one (ps_ret (pe_and (pe_call GW hr (by rfl) gW kW bW .nil pass0 (pa_cons (pv 1) pa_nil)) (pe_one (pe_chain op_le op_lt pe_int (pv 1) (pv 0))))), ?_⟩
    refine ⟨v, rfl, v, rfl, kd, _, rfl, ?_⟩
    cases kd with
    | int i =>
      refine iteT ?_
      refine ⟨.int i, rfl, 0, i, rfl, rfl, _, rfl, ite2 (fun e => ?_) (fun e => ?_)⟩
      · refine ⟨.int m, rfl, i, m, rfl, rfl, ?_⟩
        have z : plc m (.int i) = decide (i < m) := by
          show (decide (0 ≤ i) && decide (i < m)) = _
          rw [e, Bool.true_and]
        rw [z] at q
        exact q
      · have z : plc m (.int i) = false := by
          show (decide (0 ≤ i) && decide (i < m)) = _
          rw [Bool.eq_false_iff.mpr e, Bool.false_and]
        rw [z] at q
        exact q
    | _ => exact iteF q
theorem ok_win {f fW : Addr} {fd fdW : FuncData} {k : Nat} (F : Fun K "is_window" "is_window" sWin f fd) (GW : FnOk P w K mg base CX0 k fW fdW ["many", "value"] spPlace) (kW : PySem.W.keepIn K (.ref fW) = true) (bW : Binds K fdW ["many", "value"] [])
    (gW : mg "is_place" = some (.ref fW)) : FnOk P w K mg base CX0 (k + 1) f fd ["many", "first", "last"] spWin := by
  refine F.ok scWin (fun vs H Q E h => ?_) (fun cdv A outer st H vs Q E hr h => ?_)
  · obtain ⟨m, v, u, rfl, _⟩ := h
    rfl
  · obtain ⟨m, v, u, rfl, kv, ku, q⟩ := h
    have q := q H (Same.refl H)
    refine ⟨_, pss_one (ps_ret (pe_and (pe_call GW hr (by rfl) gW kW bW .nil pass0 (pa_cons (pv 0) (pa_cons (pv 1) pa_nil))) (pe_and (pe_call GW hr (by rfl) gW kW bW .nil pass0 (pa_cons (pv 0) (pa_cons (pv 2) pa_nil))) (pe_one (pe_cmpR op_le (pv 1) (pv 2) (nomark _)))))), ?_⟩
    refine ⟨.int m, rfl, v, rfl, m, v, rfl, kv, _, rfl, ite2 (fun e => ?_) (fun e => ?_)⟩
    · refine ⟨.int m, rfl, u, rfl, m, u, rfl, ku, _, rfl, ite2 (fun e2 => ?_) (fun e2 => ?_)⟩
      · obtain ⟨i, rfl, hi⟩ := plc_int e
        obtain ⟨j, rfl, hj⟩ := plc_int e2
        refine ⟨.int i, rfl, .int j, rfl, i, j, rfl, rfl, ?_⟩
        unfold win at q
        rw [e, e2, Bool.true_and, Bool.true_and] at q
        exact q
      · unfold win at q
        rw [Bool.eq_false_iff.mpr e2, Bool.false_and, Bool.and_false] at q
        exact q
    · unfold win at q
      rw [Bool.eq_false_iff.mpr e, Bool.false_and] at q
      exact q
theorem getD_at {ns : List Int} {n : Nat} (h : n < ns.length) : atI (ns.map V.int) (n : Int) = some (.int (ns.getD n 0)) := by
  refine atI_nat ?_
  rw [List.getElem?_map, List.getElem?_eq_getElem h, List.getD_eq_getElem?_getD, List.getElem?_eq_getElem h]
  rfl
theorem ok_chkw {f fW : Addr} {fd fdW : FuncData} {k : Nat} (F : Fun K "check_window" "check_window" sChkW f fd) (GW : FnOk P w K mg base CX0 k fW fdW ["many", "first", "last"] spWin) (kW : PySem.W.keepIn K (.ref fW) = true)
    (bW : Binds K fdW ["many", "first", "last"] []) (gW : mg "is_window" = some (.ref fW)) : FnOk P w K mg base CX0 (k + 1) f fd ["many", "first", "last"] spChk := by
  refine F.ok scChkW (fun vs H Q E h => ?_) (fun cdv A outer st H vs Q E hr h => ?_)
  · obtain ⟨m, v, u, rfl, _⟩ := h
    rfl
  · obtain ⟨m, v, u, rfl, kv, ku, hw, q⟩ := h
    refine ⟨_, pss_one (ps_if (pt_not (pt_val (pe_call GW hr (by rfl) gW kW bW .nil pass0 (pa_cons (pv 0) (pa_cons (pv 1) (pa_cons (pv 2) pa_nil)))))) pss_never pss_nil), ?_⟩
    refine ⟨.int m, rfl, v, rfl, u, rfl, m, v, u, rfl, kv, ku, fun H1 s1 => ⟨_, rfl, ?_⟩⟩
    rw [hw]
    exact iteF (q H1 s1)
theorem ok_least {f fW : Addr} {fd fdW : FuncData} {k : Nat} (F : Fun K "least_place" "least_place" sLeast f fd) (GW : FnOk P w K mg base CX0 k fW fdW ["many", "first", "last"] spChk) (kW : PySem.W.keepIn K (.ref fW) = true)
    (bW : Binds K fdW ["many", "first", "last"] []) (gW : mg "check_window" = some (.ref fW)) (ml : mg "len" = none) (mr : mg "range" = none) : FnOk P w K mg base CX0 (k + 1) f fd ["row", "first", "last"] spLeast := by
  refine F.ok scLeast (fun vs H Q E h => ?_) (fun cdv A outer st H vs Q E hr h => ?_)
  · obtain ⟨p, ns, v, u, rfl, _⟩ := h
    rfl
  · obtain ⟨p, ns, i, j, rfl, n12, hp, hij, hj, q⟩ := h
    refine ⟨_, pss_cons (ps_expr (pe_call GW hr (by rfl) gW kW bW .nil pass0 (pa_cons (pe_callB call_len_seq (by rfl) ml PySem.boot_len (pa_cons (pv 0) pa_nil)) (pa_cons (pv 1) (pa_cons (pv 2) pa_nil)))))
      (pss_cons (ps_set (i := 3) scLeast.nd rfl (.inl rfl) (pv 1))
      (pss_cons (ps_for PassesOwn.never rfl (pi_range2 (by rfl) mr (pa_cons (pe_op op_add (pv 1) pe_int) (pa_cons (pe_op op_add (pv 2) pe_int) pa_nil))) (pg_name (i := 4) scLeast.nd rfl (.inl rfl))
        (pss_one (ps_if (pt_cmpR op_lt (pe_ix ix_tup (pv 0) (pv 4) (fun _ _ => rfl)) (pe_ix ix_tup (pv 0) (pv 3) (fun _ _ => rfl)) (nomark _)) (pss_one (ps_set (i := 3) scLeast.nd rfl (.inl rfl) (pv 4))) pss_nil)))
      (pss_one (ps_ret (pv 3))))), ?_⟩
    have el : (((ns.map V.int).length : Nat) : Int) = ns.length := by rw [List.length_map]
    have hw : win ns.length (.int i) (.int j) = true := by
      show ((decide ((0 : Int) ≤ i) && decide ((i : Int) < ns.length)) && ((decide ((0 : Int) ≤ j) && decide ((j : Int) < ns.length)) && decide ((i : Int) ≤ j))) = true
      rw [decide_eq_true (by omega), decide_eq_true (by omega), decide_eq_true (by omega), decide_eq_true (by omega), decide_eq_true (by omega)]
      rfl
    refine ⟨.ref p, rfl, p, _, rfl, .inr (.inl (.inl hp)), .int i, rfl, .int j, rfl, _, .int i, .int j, rfl, .int _, .int _, by rw [el]; exact hw, fun H1 s1 => ?_⟩
    have hp1 := s1 _ _ hp
    refine ⟨.int i, rfl, .int i, rfl, i, 1, rfl, rfl, .int j, rfl, j, 1, rfl, rfl, _, _, rfl, ⟨by omega, by omega, by omega, by omega⟩, for_range (lo := (i : Int) + 1) (n := ((j : Int) + 1 - ((i : Int) + 1)).toNat) (fun c σ H2 => Same H H2 ∧ ∃ y, σ = [some (.ref p), some (.int i), some (.int j), some (.int (best ns i c)), y]) ⟨s1, none, rfl⟩ (fun c σ H2 hc hW => ?_) (fun σ H2 hW => ?_)⟩
    · obtain ⟨s2, y, rfl⟩ := hW
      have hc' : c < j - i := by omega
      have b := best_le ns i c
      have e1 : (i : Int) + 1 + c = ((i + (c + 1) : Nat) : Int) := by omega
      rw [e1]
      refine ⟨.ref p, rfl, .int ((i + (c + 1) : Nat) : Int), rfl, p, _, _, _, rfl, rfl, .inl (.inl (s2 _ _ hp)), getD_at (by omega), .ref p, rfl, .int (best ns i c), rfl, p, _, _, _, rfl, rfl, .inl (.inl (s2 _ _ hp)), getD_at (by omega), _, _, rfl, rfl, _, rfl, ite2 (fun e => ?_) (fun e => ?_)⟩
      · have e' := of_decide_eq_true e
        refine ⟨.int ((i + (c + 1) : Nat) : Int), rfl, s2, some (.int ((i + (c + 1) : Nat) : Int)), ?_⟩
        simp only [best]
        rw [if_pos e']
        rfl
      · have e' : ¬ ns.getD (i + (c + 1)) 0 < ns.getD (best ns i c) 0 := fun z => e (decide_eq_true z)
        refine ⟨s2, some (.int ((i + (c + 1) : Nat) : Int)), ?_⟩
        simp only [best]
        rw [if_neg e']
        rfl
    · obtain ⟨s2, y, rfl⟩ := hW
      have e1 : ((j : Int) + 1 - ((i : Int) + 1)).toNat = j - i := by omega
      rw [e1]
      exact ⟨.int (best ns i (j - i)), rfl, q H2 s2⟩
theorem ok_lawLeast {f : Addr} {fd : FuncData} {k : Nat} (F : Fun K "_law_least" "_law_least" sLawLeast f fd) (mr : mg "range" = none) : FnOk P w K mg base CX0 (k + 1) f fd ["_law_row_here", "_law_first", "_law_last"] spLawLeast := by
  refine F.ok scLawLeast (fun vs H Q E h => ?_) (fun cdv A outer st H vs Q E hr h => ?_)
  · obtain ⟨p, ns, i, j, rfl, _⟩ := h
    rfl
  · obtain ⟨p, ns, i, j, rfl, n12, hp, hij, hj, q⟩ := h
    refine ⟨_, pss_cons (ps_set (i := 3) scLawLeast.nd rfl (.inl rfl) (pv 1))
      (pss_cons (ps_for PassesOwn.never rfl (pi_range2 (by rfl) mr (pa_cons (pv 1) (pa_cons (pe_op op_add (pv 2) pe_int) pa_nil))) (pg_name (i := 4) scLawLeast.nd rfl (.inl rfl))
        (pss_one (ps_if (pt_cmpR op_lt (pe_ix ix_tup (pv 0) (pv 4) (fun _ _ => rfl)) (pe_ix ix_tup (pv 0) (pv 3) (fun _ _ => rfl)) (nomark _)) (pss_one (ps_set (i := 3) scLawLeast.nd rfl (.inl rfl) (pv 4))) pss_nil)))
      (pss_one (ps_ret (pv 3)))), ?_⟩
    refine ⟨.int i, rfl, .int i, rfl, .int j, rfl, j, 1, rfl, rfl, _, _, rfl, ⟨by omega, by omega, by omega, by omega⟩, for_range (lo := (i : Int)) (n := ((j : Int) + 1 - (i : Int)).toNat) (fun c σ H2 => H2 = H ∧ ∃ y, σ = [some (.ref p), some (.int i), some (.int j), some (.int (best ns i (c - 1))), y]) ⟨rfl, none, rfl⟩ (fun c σ H2 hc hW => ?_) (fun σ H2 hW => ?_)⟩
    · obtain ⟨rfl, y, rfl⟩ := hW
      have hc' : c < j + 1 - i := by omega
      have b := best_le ns i (c - 1)
      have e1 : (i : Int) + c = ((i + c : Nat) : Int) := by omega
      rw [e1]
      refine ⟨.ref p, rfl, .int ((i + c : Nat) : Int), rfl, p, _, _, _, rfl, rfl, .inl (.inl hp), getD_at (by omega), .ref p, rfl, .int (best ns i (c - 1)), rfl, p, _, _, _, rfl, rfl, .inl (.inl hp), getD_at (by omega), _, _, rfl, rfl, _, rfl, ite2 (fun e => ?_) (fun e => ?_)⟩
      · have e' := of_decide_eq_true e
        refine ⟨.int ((i + c : Nat) : Int), rfl, rfl, some (.int ((i + c : Nat) : Int)), ?_⟩
        cases c with
        | zero =>
          exact absurd e' (Int.lt_irrefl _)
        | succ c =>
          have z : best ns i (c + 1) = i + (c + 1) := by
            simp only [best]
            exact if_pos e'
          show _ = [some (V.ref p), some (V.int i), some (V.int j), some (V.int (best ns i (c + 1))), _]
          rw [z]
          rfl
      · have e' : ¬ ns.getD (i + c) 0 < ns.getD (best ns i (c - 1)) 0 := fun z => e (decide_eq_true z)
        refine ⟨rfl, some (.int ((i + c : Nat) : Int)), ?_⟩
        cases c with
        | zero => rfl
        | succ c =>
          have z : best ns i (c + 1) = best ns i c := by
            simp only [best]
            exact if_neg e'
          show _ = [some (V.ref p), some (V.int i), some (V.int j), some (V.int (best ns i (c + 1))), _]
          rw [z]
          rfl
    · obtain ⟨rfl, y, rfl⟩ := hW
      have e1 : ((j : Int) + 1 - (i : Int)).toNat - 1 = j - i := by omega
      rw [e1]
      exact ⟨.int (best ns i (j - i)), rfl, q⟩
end
end Lw
namespace Lw
open PySem PySem.Spec PyProof.Rows L2 Gd
theorem scCheck : FnScope ["rows", "index", "row"] ["rows"] (defScope sCheck) := ⟨rfl, rfl, rfl, by decide +kernel, rfl, by decide +kernel, by decide +kernel⟩
abbrev clN : List Str := ["rows", "many", "found", "first", "last", "place", "row"]
theorem scClaims : FnScope clN ["rows"] (defScope sClaims) := ⟨rfl, rfl, rfl, by decide +kernel, rfl, by decide +kernel, by decide +kernel⟩
abbrev Rw : Type := Addr × List Int
def refs (rs : List Rw) : List V := rs.map fun r => V.ref r.1
def RowsAt (H : Hp) (rs : List Rw) : Prop := ∀ r ∈ rs, H r.1 = some (.tup (r.2.map V.int)) ∧ 1 ≤ r.2.length ∧ r.2.length ≤ 12
theorem RowsAt.keep {H H' : Hp} {rs : List Rw} (h : RowsAt H rs) (s : Same H H') : RowsAt H' rs := fun r hr => ⟨s _ _ (h r hr).1, (h r hr).2⟩
def hd (rs : List Rw) : List Int := match rs with | [] => [] | r :: _ => r.2
/-- the first of the lengths that is another one -/
def badAt (m : Nat) : List Nat → Nat → Option Nat
  | [], _ => none
  | x :: r, i => if x = m then badAt m r (i + 1) else some i
def bad (rs : List Rw) : Option Nat := badAt (hd rs).length (rs.map fun r => r.2.length) 0
theorem badAt_go {m : Nat} : ∀ (i : Nat) (l : List Nat) (j : Nat), (∀ k x, k < i → l[k]? = some x → x = m) → i ≤ l.length → badAt m l j = badAt m (l.drop i) (j + i)
  | 0, l, j, _, _ => by rw [List.drop_zero, Nat.add_zero]
  | i + 1, [], j, _, h => by simp at h
  | i + 1, x :: r, j, h, hl => by
    have hx : x = m := h 0 x (Nat.succ_pos _) rfl
    rw [List.drop_succ_cons]
    show (if x = m then badAt m r (j + 1) else some j) = _
    rw [if_pos hx, badAt_go i r (j + 1) (fun k y hk hy => h (k + 1) y (Nat.succ_lt_succ hk) hy) (by simpa using hl)]
    congr 1
    omega
def spCheck (C0 C1 : Addr) : Sp := fun vs H Q E => ∃ (t : Addr) (rs : List Rw), vs = [.ref t] ∧ H t = some (.tup (refs rs)) ∧ RowsAt H rs ∧ rs.length ≤ 4 ∧ (rs = [] → ∀ H', Same H H' → E (.ref C0) none H') ∧
  (∀ j, bad rs = some j → ∀ H' d, Same H H' → H' d = some (.xd [(("index" : Str), .int (j : Nat))]) → E (.ref C1) (some d) H') ∧ (rs ≠ [] → bad rs = none → ∀ H', Same H H' → Q .non H')
theorem refs_len (rs : List Rw) : (refs rs).length = rs.length := List.length_map _
theorem refs_at {rs : List Rw} {i : Nat} (h : i < rs.length) : (refs rs)[i]? = some (.ref (rs[i]).1) := by
  unfold refs
  rw [List.getElem?_map, List.getElem?_eq_getElem h]
  rfl
theorem dec_int' (i j : Int) : decide (V.int i = V.int j) = decide (i = j) := decide_eq_decide.mpr ⟨fun h => V.int.inj h, fun h => by rw [h]⟩
/-- the class NoRows as the top has written it -/
structure Own0 (K : PySem.W.Frag) (mg : Str → Option Value) (x : Str) (C : Addr) : Prop where
  g : mg x = some (.ref C)
  x : PySem.W.excIn K C [.type "ValueError", .type "Exception", .type "BaseException", .type "object"] "ValueError.__new__" = true
  k : PySem.W.keepIn K (.ref C) = true
  sb : PySem.W.subIn K (.ref C) (.type "BaseException") = some true
  ty : PySem.W.typeIn K (.ref C) = some (.type "type")
section
variable {P : Program} {w : World} {K : PySem.W.Frag} {mg : Str → Option Value} {base : Heap}
theorem ok_check {f C0 C1 fI : Addr} {fd : FuncData} {k : Nat} (F : Fun K "check_alike" "check_alike" sCheck f fd) (T0 : Own0 K mg "NoRows" C0) (T : PySem.NotAlikeX.NotAlikeTxt K mg C1 fI) (ml : mg "len" = none) (me : mg "enumerate" = none) :
    FnOk P w K mg base (L2.CX P w) (k + 2) f fd ["rows"] (spCheck C0 C1) := by
  refine F.okX (k := k + 1) scCheck (fun vs H Q E h => ?_) (fun cdv A outer st H vs Q E hr h => ?_)
  · obtain ⟨t, rs, rfl, _⟩ := h
    rfl
  · obtain ⟨t, rs, rfl, ht, ra, r4, qN, qD, qY⟩ := h
    refine ⟨_, pss_cons (ps_if (pt_cmpR op_eq (pe_callB call_len_seq (by rfl) ml PySem.boot_len (pa_cons (pv 0) pa_nil)) pe_int (nomark _))
        (pss_one (ps_raise rfl (takes_of rfl rfl rfl rfl) (pmk0 PySem.F.excBase_ValueError T0.x T0.g T0.k (raises_own T0.sb T0.ty) rfl))) pss_nil)
      (pss_one (ps_for (passes_of rfl) rfl (pi_enumT (by rfl) me (pa_cons (pv 0) pa_nil)) (pg_tup rfl (pgs_cons (pg_name (i := 1) scCheck.nd rfl (.inl rfl)) (pgs_cons (pg_name (i := 2) scCheck.nd rfl (.inl rfl)) pgs_nil)))
        (pss_one (ps_if (pt_cmpR op_ne (pe_callB call_len_seq (by rfl) ml PySem.boot_len (pa_cons (pv 2) pa_nil)) (pe_callB call_len_seq (by rfl) ml PySem.boot_len (pa_cons (pe_ix ix_tup (pv 0) pe_int (fun _ _ => rfl)) pa_nil)) (nomark _))
          (pss_one (ps_raiseNotAlike rfl T hr (takes_of rfl rfl rfl rfl) (by exact (pa_cons (pv 1) pa_nil)))) pss_nil)))), ?_⟩
    refine ⟨.ref t, rfl, t, _, rfl, .inr (.inl (.inl ht)), rfl, _, rfl, ite2 (fun e => ?_) (fun e => ?_)⟩
    · have e1 := V.int.inj (of_decide_eq_true e)
      rw [refs_len] at e1
      refine qN (List.length_eq_zero_iff.mp (by omega)) H (Same.refl H)
    · have e1 : rs ≠ [] := fun z => e (by rw [z]; rfl)
      have l0 : 0 < rs.length := List.length_pos_iff.mpr e1
      have hd0 : hd rs = (rs[0]).2 := by
        cases rs with
        | nil => exact absurd rfl e1
        | cons r l => rfl
      refine ⟨.ref t, rfl, t, refs rs, rfl, .inl (.inl ht), fun i m σ H1 => Same H H1 ∧ i + m = rs.length ∧ (∃ y1 y2, σ = [some (.ref t), y1, y2]) ∧ ∀ k x, k < i → (rs.map fun r => r.2.length)[k]? = some x → x = (hd rs).length, ⟨rs.length, Same.refl H, by omega, ⟨none, none, rfl⟩, fun k x z => absurd z (Nat.not_lt_zero _)⟩, fun i m σ H1 hW => ?_⟩
      obtain ⟨sm, im, ⟨y1, y2, rfl⟩, all⟩ := hW
      by_cases hi : i < rs.length
      · refine .inr ⟨⟨refs rs, _, .inl (.inl (sm _ _ ht)), refs_at hi⟩, fun σ' H' => Same H H' ∧ (∃ y1 y2, σ' = [some (.ref t), y1, y2]) ∧ ∀ k x, k < i + 1 → (rs.map fun r => r.2.length)[k]? = some x → x = (hd rs).length, fun σ' H' z => ⟨m - 1, by omega, z.1, by omega, z.2.1, z.2.2⟩, fun x H2 y => ?_⟩
        obtain ⟨T2, x', rfl, nT, rfl, f1⟩ := y
        have ex : x' = .ref (rs[i]).1 := by
          have z := f1 _ (.inl (.inl (sm _ _ ht)))
          rw [refs_at hi] at z
          exact (Option.some.inj z).symm
        subst ex
        have s2 := same_upd (o := .tup [.int (i : Nat), .ref (rs[i]).1]) nT
        refine ⟨T2, _, rfl, .inl (.inl upd_same), rfl, _, _, rfl, _, _, rfl, rfl, ?_⟩
        have sm2 := sm.trans s2
        generalize upd H1 T2 (.tup [.int (i : Nat), .ref (rs[i]).1]) = H2 at *
        have ri := ra _ (List.getElem_mem hi)
        have r0 := ra _ (List.getElem_mem l0)
        refine ⟨.ref (rs[i]).1, rfl, _, _, rfl, .inr (.inl (.inl (sm2 _ _ ri.1))), .ref t, rfl, t, _, _, _, rfl, rfl, .inl (.inl (sm2 _ _ ht)), atI_nat (refs_at l0), _, _, rfl, .inr (.inl (.inl (sm2 _ _ r0.1))), rfl, _, rfl, ?_⟩
        rw [dec_int', List.length_map, List.length_map]
        have hx : (rs.map fun r => r.2.length)[i]? = some (rs[i]).2.length := by rw [List.getElem?_map, List.getElem?_eq_getElem hi]; rfl
        by_cases c : (rs[i]).2.length = (rs[0]).2.length
        · rw [decide_eq_true (by rw [c])]
          refine iteF ⟨sm2, ⟨_, _, rfl⟩, fun k x hk hx' => ?_⟩
          rcases Nat.lt_succ_iff_lt_or_eq.mp hk with z | z
          · exact all k x z hx'
          · subst z
            rw [hx] at hx'
            rw [← Option.some.inj hx', c, hd0]
        · rw [decide_eq_false (by omega)]
          refine iteT ⟨.int i, rfl, .int i, rfl, fun d nd => ?_⟩
          refine qD i ?_ _ d (sm2.trans (same_upd nd)) upd_same
          unfold bad
          rw [badAt_go i _ 0 all (by rw [List.length_map]; omega), List.drop_eq_getElem_cons (by rw [List.length_map]; exact hi)]
          show (if _ = _ then _ else _) = _
          rw [List.getElem_map, hd0, if_neg c, Nat.zero_add]
      · refine .inl ⟨⟨refs rs, .inl (.inl (sm _ _ ht)), by rw [refs_len]; omega⟩, ?_⟩
        refine qY e1 ?_ H1 sm
        unfold bad
        rw [badAt_go i _ 0 all (by rw [List.length_map]; omega), List.drop_eq_nil_of_le (by rw [List.length_map]; omega)]
        rfl
end
end Lw
namespace Lw
open PySem PySem.Spec PyProof.Rows L2 Gd
abbrev Cm : Type := Nat × Nat × Nat
def CAt (H : Hp) (a : Addr) (c : Cm) : Prop := H a = some (.tup [.int (c.1 : Nat), .int (c.2.1 : Nat), .int (c.2.2 : Nat)])
def holds (rs : List Rw) (f l : Nat) : Bool := rs.all fun r => decide (best r.2 f (l - f) = best (hd rs) f (l - f))
def cl1 (rs : List Rw) (f n : Nat) : List Cm := (List.range n).filterMap fun k => if holds rs f (f + 1 + k) = true then some (f, f + 1 + k, best (hd rs) f (f + 1 + k - f)) else none
def clF (rs : List Rw) (n : Nat) : List Cm := (List.range n).flatMap fun f => cl1 rs f ((hd rs).length - (f + 1))
def claims (rs : List Rw) : List Cm := clF rs (hd rs).length
theorem cl1_succ (rs : List Rw) (f n : Nat) : cl1 rs f (n + 1) = cl1 rs f n ++ (if holds rs f (f + 1 + n) = true then [(f, f + 1 + n, best (hd rs) f (f + 1 + n - f))] else []) := by
  unfold cl1
  rw [List.range_succ, List.filterMap_append]
  congr 1
  by_cases h : holds rs f (f + 1 + n) = true
  · rw [if_pos h]
    simp [h]
  · rw [if_neg h]
    simp [h]
theorem clF_succ (rs : List Rw) (n : Nat) : clF rs (n + 1) = clF rs n ++ cl1 rs n ((hd rs).length - (n + 1)) := by
  unfold clF
  rw [List.range_succ, List.flatMap_append]
  simp
theorem cl1_len (rs : List Rw) (f n : Nat) : (cl1 rs f n).length ≤ n := by
  have z := List.length_filterMap_le (fun k => if holds rs f (f + 1 + k) = true then some (f, f + 1 + k, best (hd rs) f (f + 1 + k - f)) else none) (List.range n)
  rw [List.length_range] at z
  exact z
theorem clF_len (rs : List Rw) (n : Nat) : (clF rs n).length ≤ n * (hd rs).length := by
  induction n with
  | zero => exact Nat.zero_le _
  | succ n ih =>
    rw [clF_succ, List.length_append]
    have := cl1_len rs n ((hd rs).length - (n + 1))
    have e : (n + 1) * (hd rs).length = n * (hd rs).length + (hd rs).length := Nat.succ_mul _ _
    omega
theorem paired_app {α β : Type} {R : α → β → Prop} {xs xs' : List α} {ys ys' : List β} (h : Paired R xs ys) (h' : Paired R xs' ys') : Paired R (xs ++ xs') (ys ++ ys') := by
  induction h with
  | nil => exact h'
  | cons r _ ih => exact .cons r ih
theorem paired_map {α β : Type} {R R' : α → β → Prop} {xs : List α} {ys : List β} (h : Paired R xs ys) (k : ∀ x y, R x y → R' x y) : Paired R' xs ys := by
  induction h with
  | nil => exact .nil
  | cons r _ ih => exact .cons (k _ _ r) ih
/-- the list at D holds the claims so far; all else stays -/
def Fd (H : Hp) (D : Addr) (cs : List Cm) (H' : Hp) : Prop := Kp (fun b => b = D) H H' ∧ ∃ as : List Addr, H' D = some (.lst (as.map V.ref)) ∧ Paired (CAt H') as cs
theorem Fd.same {H H1 H2 : Hp} {D : Addr} {cs : List Cm} (h : Fd H D cs H1) (s : Same H1 H2) : Fd H D cs H2 := by
  obtain ⟨k, as, hD, p⟩ := h
  exact ⟨k.trans (Kp.of_same s), as, s _ _ hD, paired_map p fun a c z => s _ _ z⟩
theorem Fd.add {H H1 : Hp} {D t : Addr} {cs : List Cm} {c : Cm} {acc : List V} (h : Fd H D cs H1) (ht : CAt H1 t c) (ha : H1 D = some (.lst acc)) : Fd H D (cs ++ [c]) (upd H1 D (.lst (acc ++ [.ref t]))) := by
  obtain ⟨k, as, hD, p⟩ := h
  have ea : acc = as.map V.ref := by
    rw [hD] at ha
    cases ha
    rfl
  subst ea
  have ne : ∀ a (c : Cm), CAt H1 a c → CAt (upd H1 D (.lst (as.map V.ref ++ [.ref t]))) a c := fun a c z => by
    have : a ≠ D := fun e => by
      unfold CAt at z
      rw [e, hD] at z
      cases z
    unfold CAt
    rw [upd_ne this]
    exact z
  refine ⟨fun b o e n => ?_, as ++ [t], ?_, paired_app (paired_map p ne) (.cons (ne _ _ ht) .nil)⟩
  · rw [upd_ne n]
    exact k b o e n
  · rw [upd_same, List.map_append]
    rfl
theorem Fd.len {H H1 : Hp} {D : Addr} {cs : List Cm} {acc : List V} (h : Fd H D cs H1) (ha : H1 D = some (.lst acc)) : acc.length = cs.length := by
  obtain ⟨k, as, hD, p⟩ := h
  rw [hD] at ha
  cases ha
  rw [List.length_map]
  exact Paired.length p
def spClaimsT (C0 C1 : Addr) : Sp := fun vs H Q E => ∃ (t : Addr) (rs : List Rw), vs = [.ref t] ∧ H t = some (.tup (refs rs)) ∧ RowsAt H rs ∧ rs.length ≤ 4 ∧ (rs = [] → ∀ H', Same H H' → E (.ref C0) none H') ∧
  (∀ j, bad rs = some j → ∀ H' d, Same H H' → H' d = some (.xd [(("index" : Str), .int (j : Nat))]) → E (.ref C1) (some d) H') ∧
  (rs ≠ [] → bad rs = none → ∀ H' p as, Same H H' → H' p = some (.tup (as.map V.ref)) → Paired (CAt H') as (claims rs) → Q (.ref p) H')
theorem bad_none {rs : List Rw} (h : bad rs = none) : ∀ r ∈ rs, r.2.length = (hd rs).length := by
  have key : ∀ (m : Nat) (l : List Nat) (i : Nat), badAt m l i = none → ∀ x ∈ l, x = m := by
    intro m l
    induction l with
    | nil => intro i _ x hx; cases hx
    | cons y l ih =>
      intro i hb x hx
      unfold badAt at hb
      split at hb
      · rcases List.mem_cons.mp hx with rfl | hx
        · assumption
        · exact ih _ hb x hx
      · cases hb
  intro r hr
  exact key _ _ _ h _ (List.mem_map.mpr ⟨r, hr, rfl⟩)
section
variable {P : Program} {w : World} {K : PySem.W.Frag} {mg : Str → Option Value} {base : Heap}
theorem body_claims {f fC fL C0 C1 : Addr} {fdC fdL : FuncData} {k : Nat} (GC : FnOk P w K mg base (L2.CX P w) k fC fdC ["rows"] (spCheck C0 C1)) (kC : PySem.W.keepIn K (.ref fC) = true) (bC : Binds K fdC ["rows"] []) (gC : mg "check_alike" = some (.ref fC))
    (GL : FnOk P w K mg base CX0 k fL fdL ["row", "first", "last"] spLeast) (kL : PySem.W.keepIn K (.ref fL) = true) (bL : Binds K fdL ["row", "first", "last"] []) (gL : mg "least_place" = some (.ref fL))
    (ml : mg "len" = none) (mr : mg "range" = none) (ma : mg "all" = none) (mt : mg "tuple" = none)
    (cdv : Value) (A : Around) (outer : List Env) (st : Shared) (H : Hp) (vs : List V) (Q : VK) (E : XK) (hr : Room k (A.deeper (envOfC "claims_of" (defScope sClaims) st.heap.objs.size f cdv))) (h : spClaimsT C0 C1 vs H Q E) :
    ∃ t, PSs (cxOf (L2.CX P w) P w K mg base clN "claims_of" (defScope sClaims) f cdv A outer st H E) (defBody sClaims) t ∧ t { nx := fun _ H' => Q .non H', rt := Q } (start clN vs) H := by
  obtain ⟨t, rs, rfl, ht, ra, r4, qN, qD, qY⟩ := h
  refine ⟨_, pss_cons (ps_expr (pe_call GC hr (by rfl) gC kC bC .nil (passes_call (takes_of rfl rfl rfl rfl) (fun _ _ _ _ h => h)) (pa_cons (pv 0) pa_nil)))
    (PSs.nox (pss_cons (ps_set (i := 1) scClaims.nd rfl (.inl rfl) (pe_callB call_len_seq (by rfl) ml PySem.boot_len (pa_cons (pe_ix ix_tup (pv 0) pe_int (fun _ _ => rfl)) pa_nil)))
    (pss_cons (ps_set (i := 2) scClaims.nd rfl (.inl rfl) (pe_lst pa_nil))
    (pss_cons (ps_for PassesOwn.never rfl (pi_range1 (by rfl) mr (pa_cons (pv 1) pa_nil)) (pg_name (i := 3) scClaims.nd rfl (.inr rfl))
      (pss_one (ps_for PassesOwn.never rfl (pi_range2 (by rfl) mr (pa_cons (pe_op op_add (pv 3) pe_int) (pa_cons (pv 1) pa_nil))) (pg_name (i := 4) scClaims.nd rfl (.inr rfl))
        (pss_cons (ps_set (i := 5) scClaims.nd rfl (.inr rfl) (pe_call GL hr (by rfl) gL kL bL .nil pass0 (pa_cons (pe_ix ix_tup (pv 0) pe_int (fun _ _ => rfl)) (pa_cons (pv 3) (pa_cons (pv 4) pa_nil)))))
        (pss_one (ps_if (pt_val (pe_callB (cr_all rfl) (by rfl) ma (by decide +kernel) (pa_cons (pe_lc (own := [("row", 6)]) (g := gName 6) (tt := tYes) (by rfl) scClaims.nd (pi_tup (pv 0)) (blkOk_by (N := clN) (sc := defScope sClaims) (by decide +kernel)) (fun _ _ _ _ _ => pg_name (i := 6) scClaims.nd rfl (Or.inl rfl)) (fun _ _ _ _ _ => pts_nil)
            (fun _ _ _ _ _ => pe_cmpR op_eq (pe_call GL hr (by rfl) gL kL bL .nil pass0 (pa_cons (pv 6) (pa_cons (pv 3) (pa_cons (pv 4) pa_nil)))) (pv 5) (nomark _))) pa_nil)))
          (pss_one (ps_expr (pe_bm PySem.F.plainAttrs_list PySem.F.slot_list_append PySem.F.type_list_append mt_append (pv 2) (pa_cons (pe_tup (pa_cons (pv 3) (pa_cons (pv 4) (pa_cons (pv 5) pa_nil)))) pa_nil)))) pss_nil))))))
    (pss_one (ps_ret (pe_callTy call_tuple_of (by rfl) mt (by decide +kernel) (pa_cons (pv 2) pa_nil)))))))), ?_⟩
  refine ⟨.ref t, rfl, t, rs, rfl, ht, ra, r4, qN, qD, fun ne bn H1 s1 => ?_⟩
  have l0 : 0 < rs.length := List.length_pos_iff.mpr ne
  have hd0 : hd rs = (rs[0]).2 := by
    cases rs with
    | nil => exact absurd rfl ne
    | cons r l => rfl
  have ra1 := ra.keep s1
  have ht1 := s1 _ _ ht
  have r0 := ra1 _ (List.getElem_mem l0)
  refine ⟨.ref t, rfl, t, _, _, _, rfl, rfl, .inl (.inl ht1), atI_nat (refs_at l0), _, _, rfl, .inr (.inl (.inl r0.1)), ?_⟩
  refine ⟨Nat.zero_le _, fun D nD => ?_⟩
  have m12 : (rs[0]).2.length ≤ 12 := r0.2.2
  have em : (((((rs[0]).2.map V.int).length : Nat)) : Int) = (((rs[0]).2.length : Nat) : Int) := by rw [List.length_map]
  have start0 : Fd H1 D (clF rs 0) (upd H1 D (.lst [])) := ⟨fun b o e n => by rw [upd_ne n]; exact e, [], upd_same, .nil⟩
  have go : ∀ {H2 : Hp} {cs : List Cm}, Fd H1 D cs H2 → ∀ b o, H1 b = some o → H2 b = some o := fun h b o e => h.1 b o e (ne_of_none e nD)
  refine ⟨_, rfl, _, rfl, by rw [em]; omega, by rw [em]; omega, for_range (n := ((((rs[0]).2.map V.int).length : Nat) : Int).toNat) (fun i σ H2 => Fd H1 D (clF rs i) H2 ∧ ∃ y3 y4 y5 y6, σ = [some (.ref t), some (.int (((rs[0]).2.map V.int).length : Nat)), some (.ref D), y3, y4, y5, y6]) ⟨start0, _, _, _, _, rfl⟩ (fun i σ H2 hi hW => ?_) (fun σ H2 hW => ?_)⟩
  case refine_2 =>
    obtain ⟨fd, y3, y4, y5, y6, rfl⟩ := hW
    have en : ((((rs[0]).2.map V.int).length : Nat) : Int).toNat = (hd rs).length := by rw [List.length_map, hd0]; omega
    rw [en] at fd
    obtain ⟨kp, as, hD, p⟩ := id fd
    refine ⟨.ref D, rfl, D, _, rfl, .inl ⟨.inl (.inl hD), fun l nl => ?_⟩⟩
    have s3 := same_upd (o := .tup (as.map V.ref)) nl
    exact qY ne bn _ l as (fun b o e => s3 _ _ (go fd _ _ (s1 _ _ e))) upd_same (paired_map p fun a c z => s3 _ _ z)
  obtain ⟨fd, y3, y4, y5, y6, rfl⟩ := hW
  have hi' : i < (rs[0]).2.length := by rw [List.length_map] at hi; omega
  have e0 : (0 : Int) + (i : Int) = (i : Int) := Int.zero_add _
  rw [e0]
  refine ⟨.int i, rfl, i, 1, rfl, rfl, _, rfl, _, _, rfl, ⟨by omega, by omega, by rw [em]; omega, by rw [em]; omega⟩, for_range (lo := (i : Int) + 1) (n := (((((rs[0]).2.map V.int).length : Nat) : Int) - ((i : Int) + 1)).toNat) (fun c σ H3 => Fd H1 D (clF rs i ++ cl1 rs i c) H3 ∧ ∃ y4 y5 y6, σ = [some (.ref t), some (.int (((rs[0]).2.map V.int).length : Nat)), some (.ref D), some (.int i), y4, y5, y6]) ⟨?_, _, _, _, rfl⟩ (fun c σ H3 hc hW => ?_) (fun σ H3 hW => ?_)⟩
  · have z : clF rs i ++ cl1 rs i 0 = clF rs i := by
      show clF rs i ++ [] = _
      rw [List.append_nil]
    rw [z]
    exact fd
  · obtain ⟨fd3, y4, y5, y6, rfl⟩ := hW
    have hc' : i + 1 + c < (rs[0]).2.length := by rw [em] at hc; omega
    have e1 : (i : Int) + 1 + c = ((i + 1 + c : Nat) : Int) := by omega
    rw [e1]
    have keep3 := go fd3
    refine ⟨.ref t, rfl, t, _, _, _, rfl, rfl, .inl (.inl (keep3 _ _ ht1)), atI_nat (refs_at l0), .int i, rfl, .int ((i + 1 + c : Nat) : Int), rfl, _, (rs[0]).2, i, i + 1 + c, rfl, m12, keep3 _ _ r0.1, by omega, hc', fun H4 s4 => ?_⟩
    have ht4 := s4 _ _ (keep3 _ _ ht1)
    have fd4 := fd3.same s4
    have keep4 := go fd4
    have e2 : i + 1 + c - i = c + 1 := by omega
    refine ⟨.ref t, rfl, t, rfl, ⟨_, .inl (.inl ht4)⟩, fun B nB => lc_tup (xs := refs rs) (fun j H5 => Same H4 H5 ∧ H5 B = some (.lst (((rs.take j).map fun r => decide (best r.2 i (i + 1 + c - i) = best (hd rs) i (i + 1 + c - i))).map V.bl))) ⟨same_upd nB, upd_same⟩ (fun j H5 _ p => .inl (.inl (p.1 _ _ ht4))) (fun j x H5 hx p => ⟨rfl, ?_⟩) (fun H5 p => ?_)⟩
    · refine iteT (B := Same H4 H5 ∧ H5 B = some (.lst (((rs.take (j + 1)).map fun r => decide (best r.2 i (i + 1 + c - i) = best (hd rs) i (i + 1 + c - i))).map V.bl))) ?_
      obtain ⟨p1, p2⟩ := p
      have hj : j < rs.length := by
        have z := (List.getElem?_eq_some_iff.mp hx).1
        rw [refs_len] at z
        exact z
      have ex : x = .ref (rs[j]).1 := by
        rw [refs_at hj] at hx
        exact (Option.some.inj hx).symm
      subst ex
      have rj := ra1 _ (List.getElem_mem hj)
      have lj : (rs[j]).2.length = (rs[0]).2.length := by rw [bad_none bn _ (List.getElem_mem hj), hd0]
      refine ⟨_, rfl, .int i, rfl, .int ((i + 1 + c : Nat) : Int), rfl, (rs[j]).1, (rs[j]).2, i, i + 1 + c, rfl, rj.2.2, p1 _ _ (keep4 _ _ rj.1), by omega, by omega, fun H6 s6 => ?_⟩
      refine ⟨_, rfl, rfl, _, s6 _ _ p2, ?_, ?_, ?_⟩
      · rw [List.length_map, List.length_map, List.length_take]
        exact small_of (by omega)
      · intro b o hb
        rw [upd_ne (ne_of_none hb nB)]
        exact s6 _ _ (p1 _ _ hb)
      · rw [upd_same, List.take_add_one, List.getElem?_eq_getElem hj, List.map_append, List.map_append, dec_int', hd0]
        have z : decide ((((best (rs[j]).2 i (i + 1 + c - i) : Nat)) : Int) = ((best (rs[0]).2 i (i + 1 + c - i) : Nat) : Int)) = decide (best (rs[j]).2 i (i + 1 + c - i) = best (rs[0]).2 i (i + 1 + c - i)) := decide_eq_decide.mpr ⟨fun h => by omega, fun h => by rw [h]⟩
        rw [z]
        rfl
    · obtain ⟨p1, p2⟩ := p
      rw [refs_len, List.take_length] at p2
      have fd5 := fd4.same p1
      obtain ⟨kp5, as, hD, pr⟩ := id fd5
      have hall : ((rs.map fun r => decide (best r.2 i (i + 1 + c - i) = best (hd rs) i (i + 1 + c - i))).all id) = holds rs i (i + 1 + c) := by
        rw [List.all_map]
        rfl
      refine ⟨B, _, rfl, .inl (.inl p2), _, rfl, ?_⟩
      rw [hall]
      have nxt := cl1_succ rs i c
      have l1 := clF_len rs i
      have l2 := cl1_len rs i c
      have l3 : i * (hd rs).length ≤ 12 * 12 := Nat.mul_le_mul (by omega) (by rw [hd0]; omega)
      cases hh : holds rs i (i + 1 + c) with
      | true =>
        refine iteT ?_
        rw [hh, if_pos rfl, hd0] at nxt
        refine ⟨.ref D, rfl, .inl ⟨rfl, _, .inl (.inl hD)⟩, .int i, rfl, .int ((i + 1 + c : Nat) : Int), rfl, _, rfl, by show 3 ≤ sizeLine; decide, fun T nT => ?_⟩
        have s6 := same_upd (o := .tup [.int (i : Nat), .int ((i + 1 + c : Nat) : Int), .int (best (rs[0]).2 i (i + 1 + c - i) : Nat)]) nT
        have fd6 := fd5.same s6
        have hl := fd6.len (s6 _ _ hD)
        refine ⟨D, _, _, rfl, rfl, s6 _ _ hD, ?_, ?_⟩
        · rw [hl, List.length_append]
          exact small_of (by omega)
        · rw [nxt, ← List.append_assoc]
          exact ⟨fd6.add upd_same (s6 _ _ hD), _, _, _, rfl⟩
      | false =>
        refine iteF ?_
        rw [hh, if_neg Bool.false_ne_true, List.append_nil] at nxt
        rw [nxt]
        exact ⟨fd5, _, _, _, rfl⟩
  · obtain ⟨fd3, y4, y5, y6, rfl⟩ := hW
    have en : (((((rs[0]).2.map V.int).length : Nat) : Int) - ((i : Int) + 1)).toNat = (hd rs).length - (i + 1) := by rw [em, hd0]; omega
    rw [en, ← clF_succ] at fd3
    exact ⟨fd3, _, _, _, _, rfl⟩
end
end Lw
namespace Lw
open PySem PySem.Spec PyProof.Rows L2 Gd
abbrev sTold : Stmt := topS 21
abbrev toldN : List Str := ["_law_rows", "_law_found", "error"]
theorem scTold : FnScope toldN ["_law_rows"] (defScope sTold) := ⟨rfl, rfl, rfl, by decide +kernel, rfl, by decide +kernel, by decide +kernel⟩
def spClaims (C0 C1 : Addr) : Sp := fun vs H Q E => ∃ (rs : List Rw), vs = refs rs ∧ RowsAt H rs ∧ rs.length ≤ 4 ∧ (rs = [] → ∀ H', Same H H' → E (.ref C0) none H') ∧
  (∀ j, bad rs = some j → ∀ H' d, Same H H' → H' d = some (.xd [(("index" : Str), .int (j : Nat))]) → E (.ref C1) (some d) H') ∧
  (rs ≠ [] → bad rs = none → ∀ H' p as, Same H H' → H' p = some (.tup (as.map V.ref)) → Paired (CAt H') as (claims rs) → Q (.ref p) H')
def spTold : Sp := fun vs H Q _ => ∃ (L : Addr) (rs : List Rw), vs = [.ref L] ∧ H L = some (.lst (refs rs)) ∧ RowsAt H rs ∧ rs.length ≤ 4 ∧ (rs = [] → ∀ H' r, Same H H' → H' r = some (.lst [.str "no rows"]) → Q (.ref r) H') ∧
  (∀ j, bad rs = some j → ∀ H' r, Same H H' → H' r = some (.lst [.str "not alike", .int (j : Nat)]) → Q (.ref r) H') ∧
  (rs ≠ [] → bad rs = none → ∀ H' p as, Same H H' → H' p = some (.tup (as.map V.ref)) → Paired (CAt H') as (claims rs) → Q (.ref p) H')
def rLenS (K : PySem.W.Frag) : List V → Hp → VK → Prop := fun xs H Q => ∃ p ys, xs = [.ref p] ∧ (SqL K H p ys ∨ SqT K H p ys) ∧ Q (.int ys.length) H
abbrev tL0 (K : PySem.W.Frag) (n : Int) : TT := tTest (tOp rEq (tCB (rLenS K) (tCons (tVar 0) tNil)) (tC (.int n)))
abbrev tI0 (K : PySem.W.Frag) (n : Int) : TE := tOp (rIxL K) (tVar 0) (tC (.int n))
def toldT (K : PySem.W.Frag) (C0 C1 : Addr) : WX → TS := fun W => tSeq (tIfS (tL0 K 0) (tRet (tCallRS0 (spClaims C0 C1) (WE W))) tNext) (tSeq (tIfS (tL0 K 1) (tRet (tCallRS (spClaims C0 C1) (WE W) (tCons (tI0 K 0) tNil))) tNext) (tSeq (tIfS (tL0 K 2) (tRet (tCallRS (spClaims C0 C1) (WE W) (tCons (tI0 K 0) (tCons (tI0 K 1) tNil)))) tNext) (tSeq (tIfS (tL0 K 3) (tRet (tCallRS (spClaims C0 C1) (WE W) (tCons (tI0 K 0) (tCons (tI0 K 1) (tCons (tI0 K 2) tNil))))) tNext) (tRet (tCallRS (spClaims C0 C1) (WE W) (tCons (tI0 K 0) (tCons (tI0 K 1) (tCons (tI0 K 2) (tCons (tI0 K 3) tNil)))))))))
def toldL (K : PySem.W.Frag) (C0 C1 C2 CE : Addr) : List (Value × Su) := [((.ref C0 : Value), (fun a cls d => tIfS (tAnd (tTest (tCB (rIsZ K C0 a cls d) (tCons (tVar 2) (tCons (tC (.ref CE)) tNil)))) (tNot (tTest (tCB (rIsZT K C0 a cls d) (tCons (tVar 2) (tCons (tTup (tCons (tC (.ref C1)) (tCons (tC (.ref C2)) tNil))) tNil)))))) (tAsg (tLst (tCons (tC (.str "no rows")) tNil)) (gName 1)) tNext)), (.ref C1, (fun a cls d => tIfS (tAnd (tTest (tCB (rIsZ K C1 a cls d) (tCons (tVar 2) (tCons (tC (.ref CE)) tNil)))) (tNot (tTest (tCB (rIsZ K C1 a cls d) (tCons (tVar 2) (tCons (tC (.ref C2)) tNil)))))) (tAsg (tLst (tCons (tC (.str "not alike")) (tCons (tByNotAlike C1 a cls d (tVar 2)) tNil))) (gName 1)) tNext))]
theorem tL0_is {K : PySem.W.Frag} {σ : L2.St} {H : Hp} {Q : Bool → Hp → Prop} {L : Addr} {rs : List Rw} {n : Int} {b : Bool} (h0 : σ[0]? = some (some (.ref L))) (hL : H L = some (.lst (refs rs))) (e : decide ((rs.length : Int) = n) = b) (q : Q b H) : tL0 K n σ H Q := by
  refine ⟨.ref L, h0, L, refs rs, rfl, .inl (.inl (.inl hL)), rfl, _, rfl, ?_⟩
  rw [dec_int', refs_len, e]
  exact q
theorem tI0_is {K : PySem.W.Frag} {σ : L2.St} {H : Hp} {Q : VK} {L : Addr} {rs : List Rw} {n : Nat} (h0 : σ[0]? = some (some (.ref L))) (hL : H L = some (.lst (refs rs))) (h : n < rs.length) (q : Q (.ref (rs[n]).1) H) : tI0 K n σ H Q :=
  ⟨.ref L, h0, L, refs rs, _, _, rfl, rfl, .inl (.inl hL), atI_nat (refs_at h), q⟩
theorem refs_n0 {rs : List Rw} (h : rs.length = 0) : refs rs = [] := by
  match rs, h with
  | [], _ => rfl
theorem refs_n1 {rs : List Rw} (h : rs.length = 1) : refs rs = [.ref (rs[0]'(by omega)).1] := by
  match rs, h with
  | [a0], _ => rfl
theorem refs_n2 {rs : List Rw} (h : rs.length = 2) : refs rs = [.ref (rs[0]'(by omega)).1, .ref (rs[1]'(by omega)).1] := by
  match rs, h with
  | [a0, a1], _ => rfl
theorem refs_n3 {rs : List Rw} (h : rs.length = 3) : refs rs = [.ref (rs[0]'(by omega)).1, .ref (rs[1]'(by omega)).1, .ref (rs[2]'(by omega)).1] := by
  match rs, h with
  | [a0, a1, a2], _ => rfl
theorem refs_n4 {rs : List Rw} (h : rs.length = 4) : refs rs = [.ref (rs[0]'(by omega)).1, .ref (rs[1]'(by omega)).1, .ref (rs[2]'(by omega)).1, .ref (rs[3]'(by omega)).1] := by
  match rs, h with
  | [a0, a1, a2, a3], _ => rfl
theorem wish0 {K : PySem.W.Frag} {C0 C1 C2 CE L r0 : Addr} {H : Hp} {D : Ends} (e00 : PySem.W.exmOne K (.ref C0) (.ref C0) = some true) (k0E : PySem.W.kitOne K (.ref C0) (.ref CE) = some true) (k0N : PySem.W.kitAny K (.ref C0) [.ref C1, .ref C2] = some false)
    (q : ∀ H' r, Same H H' → H' r = some (.lst [.str "no rows"]) → D.nx [some (.ref L), some (.ref r), none] H') : wCl K 2 D (fun _ _ _ _ => False) (toldL K C0 C1 C2 CE) (.ref C0) none [some (.ref L), some (.ref r0), none] H := by
  refine ⟨true, e00, fun _ a na => ?_, fun z => Bool.noConfusion z⟩
  refine ⟨.ref a, rfl, .ref CE, .ref CE, true, rfl, rfl, .own _, .inl rfl, k0E, _, rfl, iteT ?_⟩
  refine ⟨.ref a, rfl, by show 2 ≤ sizeLine; decide, fun c nc => ?_⟩
  have s1 := same_upd (o := .tup [.ref C1, .ref C2]) nc
  refine ⟨c, _, [.ref C1, .ref C2], false, rfl, rfl, upd_same, .cons (.own _) (.cons (.own _) .nil), .inl rfl, k0N, _, rfl, iteT ?_⟩
  refine ⟨by show 1 ≤ sizeLine; decide, fun r nr => ?_⟩
  exact q _ r (s1.trans (same_upd nr)) upd_same
theorem wish1 {K : PySem.W.Frag} {C0 C1 C2 CE L r0 d : Addr} {H : Hp} {D : Ends} {j : Int} (e10 : PySem.W.exmOne K (.ref C1) (.ref C0) = some false) (e11 : PySem.W.exmOne K (.ref C1) (.ref C1) = some true) (k1E : PySem.W.kitOne K (.ref C1) (.ref CE) = some true) (k1N : PySem.W.kitOne K (.ref C1) (.ref C2) = some false)
    (hd : H d = some (.xd [(("index" : Str), .int j)])) (q : ∀ H' r, Same H H' → H' r = some (.lst [.str "not alike", .int j]) → D.nx [some (.ref L), some (.ref r), none] H') : wCl K 2 D (fun _ _ _ _ => False) (toldL K C0 C1 C2 CE) (.ref C1) (some d) [some (.ref L), some (.ref r0), none] H := by
  refine ⟨false, e10, fun z => Bool.noConfusion z, fun _ => ⟨true, e11, fun _ a na => ?_, fun z => Bool.noConfusion z⟩⟩
  refine ⟨.ref a, rfl, .ref CE, .ref CE, true, rfl, rfl, .own _, .inr ⟨d, _, rfl, hd⟩, k1E, _, rfl, iteT ?_⟩
  refine ⟨.ref a, rfl, .ref C2, .ref C2, false, rfl, rfl, .own _, .inr ⟨d, _, rfl, hd⟩, k1N, _, rfl, iteT ?_⟩
  refine ⟨.ref a, rfl, rfl, rfl, d, _, rfl, hd, by show 2 ≤ sizeLine; decide, fun r nr => ?_⟩
  exact q _ r (same_upd nr) upd_same
section
variable {P : Program} {w : World} {K : PySem.W.Frag} {mg : Str → Option Value} {base : Heap}
theorem ok_claims {f fC fL C0 C1 : Addr} {fd fdC fdL : FuncData} {k : Nat} (F : Fun K "claims_of" "claims_of" sClaims f fd) (GC : FnOk P w K mg base (L2.CX P w) k fC fdC ["rows"] (spCheck C0 C1)) (kC : PySem.W.keepIn K (.ref fC) = true) (bC : Binds K fdC ["rows"] []) (gC : mg "check_alike" = some (.ref fC))
    (GL : FnOk P w K mg base CX0 k fL fdL ["row", "first", "last"] spLeast) (kL : PySem.W.keepIn K (.ref fL) = true) (bL : Binds K fdL ["row", "first", "last"] []) (gL : mg "least_place" = some (.ref fL))
    (ml : mg "len" = none) (mr : mg "range" = none) (ma : mg "all" = none) (mt : mg "tuple" = none) : FnR P w K mg base (L2.CX P w) (k + 1) f (spClaims C0 C1) := by
  obtain ⟨oc, od, kV, doc, pm, an, cdv, ct, osl, rfl, lk, hcd⟩ := F.ex
  have z := StX.fn_star (P := P) (w := w) (mg := mg) (base := base) (CX := L2.CX P w) (k := k) (ps := []) (pv := "rows") (N := clN) (sp := spClaimsT C0 C1) lk hcd scClaims StX.cxUp
    (fun us rest hl => by
      cases us with
      | nil => cases rest <;> rfl
      | cons u us => cases hl)
    (fun A outer s H vs Q E hr h => body_claims GC kC bC gC GL kL bL gL ml mr ma mt cdv A outer s H vs Q E hr h)
  intro A outer s H us vs Q E hr e0 r h
  obtain ⟨rs, rfl, ra, r4, q1, q2, q3⟩ := h
  refine z A outer s H us _ Q E hr e0 r ⟨[], refs rs, rfl, rfl, by rw [refs_len]; exact Nat.le_of_lt (small_of (by omega)), fun p np => ?_⟩
  have s1 := same_upd (o := .tup (refs rs)) np
  exact ⟨p, rs, rfl, upd_same, ra.keep s1, r4, fun e H' s => q1 e H' (s1.trans s), fun j e H' d s => q2 j e H' d (s1.trans s), fun e1 e2 H' p as s => q3 e1 e2 H' p as (s1.trans s)⟩
theorem ok_told {f fC C0 C1 C2 CE fI : Addr} {fd : FuncData} {k : Nat} (F : Fun K "_law_told" "_law_told" sTold f fd) (GC : FnR P w K mg base (L2.CX P w) k fC (spClaims C0 C1)) (kC : PySem.W.keepIn K (.ref fC) = true) (gC : mg "claims_of" = some (.ref fC))
    (T0 : Own0 K mg "NoRows" C0) (T : PySem.NotAlikeX.NotAlikeTxt K mg C1 fI) (X0 : ExcD K C0) (X1 : ExcD K C1) (g2 : mg "NotShape" = some (.ref C2)) (gE : mg "LeastError" = some (.ref CE)) (ml : mg "len" = none) (mi : mg "isinstance" = none)
    (e00 : PySem.W.exmOne K (.ref C0) (.ref C0) = some true) (e10 : PySem.W.exmOne K (.ref C1) (.ref C0) = some false) (k0E : PySem.W.kitOne K (.ref C0) (.ref CE) = some true) (k0N : PySem.W.kitAny K (.ref C0) [.ref C1, .ref C2] = some false)
    (k1E : PySem.W.kitOne K (.ref C1) (.ref CE) = some true) (k1N : PySem.W.kitOne K (.ref C1) (.ref C2) = some false) : FnOk P w K mg base CX0 (k + 1) f fd ["_law_rows"] spTold := by
  refine F.ok scTold (fun vs H Q E h => ?_) (fun cdv A outer st H vs Q E hr h => ?_)
  · obtain ⟨L, rs, rfl, _⟩ := h
    rfl
  · obtain ⟨L, rs, rfl, hL, ra, r4, q1, q2, q3⟩ := h
    refine ⟨_, pss_cons (ps_set (i := 1) scTold.nd rfl (.inl rfl) (pe_lst (pa_cons pe_str pa_nil)))
      (pss_cons (ps_try_cl (i := 2) (n := "error") (W0 := fun _ _ _ _ => False) (tb := toldT K C0 C1) (l := toldL K C0 C1 C2 CE)
        rfl rfl scTold.nd rfl rfl takes0 (fun W pn xe tk _ => ?body) (.more ⟨rfl, by decide, Or.inl T0.g⟩ ?s0 (.more ⟨rfl, by decide, Or.inl T.gC⟩ ?s1 .stop)))
      (pss_one (ps_ret (pv 1)))), ?_⟩
    case body =>
      exact (pss_cons (ps_if (pt_cmpR op_eq (pe_callB call_len_seq (by rfl) ml PySem.boot_len (pa_cons (pv 0) pa_nil)) pe_int (nomark _)) (pss_one (ps_ret (pe_callRS0 (E := WE W) GC hr (by rfl) gC kC (fun σ => passAt tk σ)))) pss_nil)
          (pss_cons (ps_if (pt_cmpR op_eq (pe_callB call_len_seq (by rfl) ml PySem.boot_len (pa_cons (pv 0) pa_nil)) pe_int (nomark _)) (pss_one (ps_ret (pe_callRS (E := WE W) GC hr (by rfl) gC kC (fun σ => passAt tk σ) (by exact (pa_cons (pe_ix ix_list (pv 0) pe_int (fun _ _ => rfl)) pa_nil))))) pss_nil)
          (pss_cons (ps_if (pt_cmpR op_eq (pe_callB call_len_seq (by rfl) ml PySem.boot_len (pa_cons (pv 0) pa_nil)) pe_int (nomark _)) (pss_one (ps_ret (pe_callRS (E := WE W) GC hr (by rfl) gC kC (fun σ => passAt tk σ) (by exact (pa_cons (pe_ix ix_list (pv 0) pe_int (fun _ _ => rfl)) (pa_cons (pe_ix ix_list (pv 0) pe_int (fun _ _ => rfl)) pa_nil)))))) pss_nil)
          (pss_cons (ps_if (pt_cmpR op_eq (pe_callB call_len_seq (by rfl) ml PySem.boot_len (pa_cons (pv 0) pa_nil)) pe_int (nomark _)) (pss_one (ps_ret (pe_callRS (E := WE W) GC hr (by rfl) gC kC (fun σ => passAt tk σ) (by exact (pa_cons (pe_ix ix_list (pv 0) pe_int (fun _ _ => rfl)) (pa_cons (pe_ix ix_list (pv 0) pe_int (fun _ _ => rfl)) (pa_cons (pe_ix ix_list (pv 0) pe_int (fun _ _ => rfl)) pa_nil))))))) pss_nil)
          (pss_one (ps_ret (pe_callRS (E := WE W) GC hr (by rfl) gC kC (fun σ => passAt tk σ) (by exact (pa_cons (pe_ix ix_list (pv 0) pe_int (fun _ _ => rfl)) (pa_cons (pe_ix ix_list (pv 0) pe_int (fun _ _ => rfl)) (pa_cons (pe_ix ix_list (pv 0) pe_int (fun _ _ => rfl)) (pa_cons (pe_ix ix_list (pv 0) pe_int (fun _ _ => rfl)) pa_nil))))))))))))
    case s0 =>
      intro a o cls d pn hz hf
      exact pss_one (ps_if (PW.pt (pw_and (pt_val (pe_callB (call_isZ X0 hz hf) (by rfl) mi (by decide +kernel) (pa_cons (pv 2) (pa_cons (pe_glob (v := .ref CE) rfl gE rfl) pa_nil))))
          (pw_and1 (pt_not (pt_val (pe_callB (call_isZT X0 hz hf) (by rfl) mi (by decide +kernel) (pa_cons (pv 2) (pa_cons (pe_tup (pa_cons (pe_glob (v := .ref C1) rfl T.gC rfl) (pa_cons (pe_glob (v := .ref C2) rfl g2 rfl) pa_nil))) pa_nil))))))))
        (pss_one (ps_set (i := 1) scTold.nd rfl (.inl rfl) (pe_lst (pa_cons pe_str pa_nil)))) pss_nil)
    case s1 =>
      intro a o cls d pn hz hf
      exact pss_one (ps_if (PW.pt (pw_and (pt_val (pe_callB (call_isZ X1 hz hf) (by rfl) mi (by decide +kernel) (pa_cons (pv 2) (pa_cons (pe_glob (v := .ref CE) rfl gE rfl) pa_nil))))
          (pw_and1 (pt_not (pt_val (pe_callB (call_isZ X1 hz hf) (by rfl) mi (by decide +kernel) (pa_cons (pv 2) (pa_cons (pe_glob (v := .ref C2) rfl g2 rfl) pa_nil))))))))
        (pss_one (ps_set (i := 1) scTold.nd rfl (.inl rfl) (pe_lst (pa_cons pe_str (pa_cons (pe_byNotAlike T hz hf (pv 2)) pa_nil))))) pss_nil)
    refine ⟨by show 1 ≤ sizeLine; decide, fun r0 n0 => ?_⟩
    have s1 := same_upd (o := .lst [.str "other"]) n0
    show toldT K C0 C1 _ _ [some (.ref L), some (.ref r0), none] (upd H r0 (.lst [.str "other"]))
    have hL1 := s1 _ _ hL
    have ra1 := ra.keep s1
    have p1 : rs = [] → ∀ H' r, Same (upd H r0 (.lst [.str "other"])) H' → H' r = some (.lst [.str "no rows"]) → Q (.ref r) H' := fun e H' r s z => q1 e H' r (s1.trans s) z
    have p2 : ∀ j, bad rs = some j → ∀ H' r, Same (upd H r0 (.lst [.str "other"])) H' → H' r = some (.lst [.str "not alike", .int (j : Nat)]) → Q (.ref r) H' := fun j e H' r s z => q2 j e H' r (s1.trans s) z
    have p3 : rs ≠ [] → bad rs = none → ∀ H' p as, Same (upd H r0 (.lst [.str "other"])) H' → H' p = some (.tup (as.map V.ref)) → Paired (CAt H') as (claims rs) → Q (.ref p) H' := fun e1 e2 H' p as s z => q3 e1 e2 H' p as (s1.trans s) z
    generalize upd H r0 (.lst [.str "other"]) = H1 at *
    have sp : ∀ (D : Ends), (∀ r H', Q (.ref r) H' → D.nx [some (.ref L), some (.ref r), none] H') → spClaims C0 C1 (refs rs) H1 Q (WE (wCl K 2 D (fun _ _ _ _ => False) (toldL K C0 C1 C2 CE)) [some (.ref L), some (.ref r0), none]) := fun D hD =>
      ⟨rs, rfl, ra1, r4, fun e H' s => wish0 e00 k0E k0N (fun H'' r s' z => hD r H'' (p1 e H'' r (s.trans s') z)), fun j e H' d s hd => wish1 e10 T.te k1E k1N hd (fun H'' r s' z => hD r H'' (p2 j e H'' r (s.trans s') z)), p3⟩
    have z := sp { nx := fun σ H' => tRet (tVar 1) { nx := fun _ H' => Q .non H', rt := Q } σ H', rt := Q } (fun r H' q => (⟨.ref r, rfl, q⟩ : tRet (tVar 1) { nx := fun _ H' => Q .non H', rt := Q } [some (.ref L), some (.ref r), none] H'))
    by_cases c0 : rs.length = 0
    · refine tL0_is rfl hL1 (decide_eq_true (by omega)) (iteT ?_)
      rw [refs_n0 c0] at z
      exact z
    refine tL0_is rfl hL1 (decide_eq_false (by omega)) (iteF ?_)
    by_cases c1 : rs.length = 1
    · refine tL0_is rfl hL1 (decide_eq_true (by omega)) (iteT ?_)
      rw [refs_n1 c1] at z
      exact (tI0_is (n := 0) rfl hL1 (by omega) z)
    refine tL0_is rfl hL1 (decide_eq_false (by omega)) (iteF ?_)
    by_cases c2 : rs.length = 2
    · refine tL0_is rfl hL1 (decide_eq_true (by omega)) (iteT ?_)
      rw [refs_n2 c2] at z
      exact (tI0_is (n := 0) rfl hL1 (by omega) (tI0_is (n := 1) rfl hL1 (by omega) z))
    refine tL0_is rfl hL1 (decide_eq_false (by omega)) (iteF ?_)
    by_cases c3 : rs.length = 3
    · refine tL0_is rfl hL1 (decide_eq_true (by omega)) (iteT ?_)
      rw [refs_n3 c3] at z
      exact (tI0_is (n := 0) rfl hL1 (by omega) (tI0_is (n := 1) rfl hL1 (by omega) (tI0_is (n := 2) rfl hL1 (by omega) z)))
    refine tL0_is rfl hL1 (decide_eq_false (by omega)) (iteF ?_)
    have c4 : rs.length = 4 := by omega
    rw [refs_n4 c4] at z
    exact (tI0_is (n := 0) rfl hL1 (by omega) (tI0_is (n := 1) rfl hL1 (by omega) (tI0_is (n := 2) rfl hL1 (by omega) (tI0_is (n := 3) rfl hL1 (by omega) z))))
end
end Lw
namespace Lw
open PySem PySem.Spec PyProof.Rows L2 Gd
abbrev sDue : Stmt := topS 22
abbrev dueN : List Str := ["_law_rows", "_law_size", "_law_wrong", "_law_found", "_law_first", "_law_last", "_law_places", "_law_index", "_law_row_here"]
theorem scDue : FnScope dueN ["_law_rows"] (defScope sDue) := ⟨rfl, rfl, rfl, by decide +kernel, rfl, by decide +kernel, by decide +kernel⟩
def rowsD (rs : List Rw) : List PyData := rs.map fun r => .tuple (r.2.map PyData.int)
theorem dpAll_rows {K : PySem.W.Frag} {H : Hp} : ∀ rs : List Rw, RowsAt H rs → DpAll K H (refs rs) (rowsD rs)
  | [], _ => .nil
  | r :: l, h => .cons (.tup (.inl (.inl (h r List.mem_cons_self).1)) (dpAll_ints _)) (dpAll_rows l fun x hx => h x (List.mem_cons_of_mem _ hx))
theorem ints_lay : ∀ ns : List Int, PyData.canLayAll0 (ns.map PyData.int) = true ∧ PyData.depthAll (ns.map PyData.int) = 0
  | [] => ⟨rfl, rfl⟩
  | n :: r => by
    have ih := ints_lay r
    refine ⟨?_, ?_⟩
    · rw [List.map_cons, PyData.canLayAll0, ih.1]
      rfl
    · rw [List.map_cons, PyData.depthAll, ih.2]
      rfl
theorem ints_shaped (ns : List Int) : SeqAt.shaped (.list (ns.map PyData.int)) = true := by
  unfold SeqAt.shaped
  rw [PyData.canLay0, PyData.depth, (ints_lay ns).1, (ints_lay ns).2]
  decide
theorem rows_lay : ∀ rs : List Rw, PyData.canLayAll0 (rowsD rs) = true ∧ PyData.depthAll (rowsD rs) ≤ 1
  | [] => ⟨rfl, by simp [rowsD, PyData.depthAll]⟩
  | r :: l => by
    have ih := rows_lay l
    have hr := ints_lay r.2
    unfold rowsD at ih ⊢
    refine ⟨?_, ?_⟩
    · rw [List.map_cons, PyData.canLayAll0, ih.1, PyData.canLay0, hr.1]
      rfl
    · rw [List.map_cons, PyData.depthAll, PyData.depth, hr.2]
      omega
theorem rows_shaped (rs : List Rw) : SeqAt.shaped (.list (rowsD rs)) = true := by
  unfold SeqAt.shaped
  rw [PyData.canLay0, PyData.depth, (rows_lay rs).1, Bool.true_and]
  exact decide_eq_true (by have := (rows_lay rs).2; omega)
theorem rows_nil (rs : List Rw) : PyData.eqv (.list (rowsD rs)) (.list []) = rs.isEmpty := by
  cases rs <;> simp [rowsD, PyData.eqv, PyData.eqvAll]
theorem eqv_ints (xs ys : List Int) : PyData.eqv (.list (xs.map PyData.int)) (.list (ys.map PyData.int)) = decide (xs = ys) := by
  rw [PyData.eqv]
  induction xs generalizing ys with
  | nil => cases ys <;> simp [PyData.eqvAll]
  | cons x r ih =>
    cases ys with
    | nil => simp [PyData.eqvAll]
    | cons y l =>
      rw [List.map_cons, List.map_cons, PyData.eqvAll, ih, PyData.eqv]
      by_cases h : x = y
      · subst h
        simp
      · simp [h]
def places (rs : List Rw) (f l : Nat) : List Int := rs.map fun r => ((best r.2 f (l - f) : Nat) : Int)
theorem places_holds (rs : List Rw) (f l : Nat) : decide (places rs f l = List.replicate rs.length ((best (hd rs) f (l - f) : Nat) : Int)) = holds rs f l := by
  apply Bool.eq_iff_iff.mpr
  rw [decide_eq_true_iff, holds, List.all_eq_true, List.eq_replicate_iff]
  unfold places
  constructor
  · rintro ⟨_, h⟩ r hr
    have := h _ (List.mem_map.mpr ⟨r, hr, rfl⟩)
    exact decide_eq_true (by omega)
  · intro h
    refine ⟨by rw [List.length_map], fun b hb => ?_⟩
    obtain ⟨r, hr, rfl⟩ := List.mem_map.mp hb
    have := of_decide_eq_true (h r hr)
    omega
section
variable {P : Program} {w : World} {K : PySem.W.Frag} {mg : Str → Option Value} {base : Heap}
theorem ok_due {f fL : Addr} {fd fdL : FuncData} {k : Nat} (F : Fun K "_law_due" "_law_due" sDue f fd)
    (GL : FnOk P w K mg base CX0 k fL fdL ["_law_row_here", "_law_first", "_law_last"] spLawLeast) (kL : PySem.W.keepIn K (.ref fL) = true) (bL : Binds K fdL ["_law_row_here", "_law_first", "_law_last"] []) (gL : mg "_law_least" = some (.ref fL))
    (ml : mg "len" = none) (mr : mg "range" = none) (mt : mg "tuple" = none) : FnOk P w K mg base CX0 (k + 1) f fd ["_law_rows"] spTold := by
  refine F.ok scDue (fun vs H Q E h => ?_) (fun cdv A outer st H vs Q E hr h => ?_)
  · obtain ⟨L, rs, rfl, _⟩ := h
    rfl
  · obtain ⟨L, rs, rfl, hL, ra, r4, q1, q2, q3⟩ := h
    refine ⟨_, pss_cons (ps_if (pt_cmpR (op_eqD hr.units) (pv 0) (pe_lst pa_nil) (nomark _)) (pss_one (ps_ret (pe_lst (pa_cons pe_str pa_nil)))) pss_nil)
      (pss_cons (ps_set (i := 1) scDue.nd rfl (.inr rfl) (pe_callB call_len_seq (by rfl) ml PySem.boot_len (pa_cons (pe_ix ix_list (pv 0) pe_int (fun _ _ => rfl)) pa_nil)))
      (pss_cons (ps_setLc (i := 2) (own := [("_law_index", 7)]) (g := gName 7) (tt := tTest (tOp rNe (tCB (rLenS K) (tCons (tOp (rIxL K) (tVar 0) (tVar 7)) tNil)) (tVar 1))) rfl scDue.nd rfl rfl (sw_true rfl rfl rfl (by decide +kernel)) (pi_range1 (by rfl) mr (pa_cons (pe_callB call_len_seq (by rfl) ml PySem.boot_len (pa_cons (pv 0) pa_nil)) pa_nil))
          (blkOk_by (N := dueN) (sc := defScope sDue) (by decide +kernel)) (fun _ _ _ _ _ => pg_name (i := 7) scDue.nd rfl (Or.inl rfl)) (fun _ _ _ _ _ => pts_one (pt_cmpR op_ne (pe_callB call_len_seq (by rfl) ml PySem.boot_len (pa_cons (pe_ix (r := rIxL K) ix_list (pv 0) (pv 7) (fun _ _ => rfl)) pa_nil)) (pv 1) (nomark _)))
          (fun _ _ _ _ _ => pv 7))
      (pss_cons (ps_if (pt_cmpR (op_neD hr.units) (pv 2) (pe_lst pa_nil) (nomark _)) (pss_one (ps_ret (pe_lst (pa_cons pe_str (pa_cons (pe_ix ix_list (pv 2) pe_int (fun _ _ => rfl)) pa_nil))))) pss_nil)
      (pss_cons (ps_set (i := 3) scDue.nd rfl (.inl rfl) (pe_lst pa_nil))
      (pss_cons (ps_for PassesOwn.never rfl (pi_range1 (by rfl) mr (pa_cons (pv 1) pa_nil)) (pg_name (i := 4) scDue.nd rfl (.inr rfl))
        (pss_one (ps_for PassesOwn.never rfl (pi_range2 (by rfl) mr (pa_cons (pe_op op_add (pv 4) pe_int) (pa_cons (pv 1) pa_nil))) (pg_name (i := 5) scDue.nd rfl (.inr rfl))
          (pss_cons (ps_setLc (i := 6) (own := [("_law_row_here", 8)]) (g := gName 8) (tt := tYes) rfl scDue.nd rfl rfl (sw_true rfl rfl rfl (by decide +kernel)) (pi_list (pv 0))
            (blkOk_by (N := dueN) (sc := defScope sDue) (by decide +kernel)) (fun _ _ _ _ _ => pg_name (i := 8) scDue.nd rfl (Or.inl rfl)) (fun _ _ _ _ _ => pts_nil)
            (fun _ _ _ _ _ => pe_call GL hr (by rfl) gL kL bL .nil pass0 (pa_cons (pv 8) (pa_cons (pv 4) (pa_cons (pv 5) pa_nil)))))
          (pss_one (ps_if (pt_cmpR (op_eqD hr.units) (pv 6) (pe_op op_rep (pe_lst (pa_cons (pe_ix ix_list (pv 6) pe_int (fun _ _ => rfl)) pa_nil)) (pe_callB call_len_seq (by rfl) ml PySem.boot_len (pa_cons (pv 0) pa_nil))) (nomark _))
            (pss_one (ps_expr (pe_bm PySem.F.plainAttrs_list PySem.F.slot_list_append PySem.F.type_list_append mt_append (pv 3) (pa_cons (pe_tup (pa_cons (pv 4) (pa_cons (pv 5) (pa_cons (pe_ix ix_list (pv 6) pe_int (fun _ _ => rfl)) pa_nil)))) pa_nil)))) pss_nil))))))
      (pss_one (ps_ret (pe_callTy call_tuple_of (by rfl) mt (by decide +kernel) (pa_cons (pv 3) pa_nil))))))))), ?_⟩
    refine ⟨.ref L, rfl, Nat.zero_le _, fun e0 n0 => ?_⟩
    have s0 := same_upd (o := .lst []) n0
    have emp : (upd H e0 (.lst [])) e0 = some (.lst (([] : List Int).map V.int)) := upd_same
    have hL0 := s0 _ _ hL
    have ra0 := ra.keep s0
    refine ⟨_, _, .lst (.inl (.inl hL0)) (dpAll_rows rs ra0), .lst (.inl (.inl emp)) (dpAll_ints []), rows_shaped rs, ints_shaped [], _, rfl, ?_⟩
    rw [show PyData.eqv (.list (rowsD rs)) (.list (([] : List Int).map PyData.int)) = rs.isEmpty from rows_nil rs]
    generalize upd H e0 (.lst []) = H0 at *
    cases hE : rs.isEmpty with
    | true =>
      refine iteT ⟨by show 1 ≤ sizeLine; decide, fun r nr => ?_⟩
      exact q1 (List.isEmpty_iff.mp hE) _ r (s0.trans (same_upd nr)) upd_same
    | false =>
      refine iteF ?_
      have ne : rs ≠ [] := fun z => by rw [z] at hE; cases hE
      have l0 : 0 < rs.length := List.length_pos_iff.mpr ne
      have hd0 : hd rs = (rs[0]).2 := by
        cases rs with
        | nil => exact absurd rfl ne
        | cons r l => rfl
      have r0 := ra0 _ (List.getElem_mem l0)
      refine ⟨.ref L, rfl, L, _, _, _, rfl, rfl, .inl (.inl hL0), atI_nat (refs_at l0), _, _, rfl, .inr (.inl (.inl r0.1)), ?_⟩
      have m12 : (rs[0]).2.length ≤ 12 := r0.2.2
      have em : (((((rs[0]).2.map V.int).length : Nat)) : Int) = (((rs[0]).2.length : Nat) : Int) := by rw [List.length_map]
      have er : ((((refs rs).length : Nat)) : Int) = ((rs.length : Nat) : Int) := by rw [refs_len]
      have lx : ∀ {j : Nat} (hj : j < rs.length), (rs.map fun r => r.2.length)[j]? = some (rs[j]).2.length := fun {j} hj => by rw [List.getElem?_map, List.getElem?_eq_getElem hj]; rfl
      refine ⟨.ref L, rfl, L, _, rfl, .inl (.inl (.inl hL0)), _, rfl, by rw [er]; omega, by rw [er]; omega, fun B nB => lc_range (n := ((((refs rs).length : Nat)) : Int).toNat) (fun j H1 => Same H0 H1 ∧ ∃ ws : List Int, H1 B = some (.lst (ws.map V.int)) ∧ ws.length ≤ j ∧
        ((ws = [] ∧ ∀ k x, k < j → (rs.map fun r => r.2.length)[k]? = some x → x = (hd rs).length) ∨ ∃ (j0 : Nat) (r : List Int), ws = (j0 : Int) :: r ∧ bad rs = some j0)) ⟨same_upd nB, [], upd_same, Nat.le_refl _, .inl ⟨rfl, fun k x z => absurd z (Nat.not_lt_zero _)⟩⟩ (fun j H1 hj p => ?_) (fun H1 p => ?_)⟩
      · have hj' : j < rs.length := by rw [er] at hj; omega
        obtain ⟨p1, ws, hB, wl, wh⟩ := p
        have e1 : (0 : Int) + (j : Int) = (j : Int) := Int.zero_add _
        rw [e1]
        have rj := ra0 _ (List.getElem_mem hj')
        refine ⟨rfl, .ref L, rfl, .int j, rfl, L, refs rs, _, _, rfl, rfl, .inl (.inl (p1 _ _ hL0)), atI_nat (refs_at hj'), _, _, rfl, .inr (.inl (.inl (p1 _ _ rj.1))), _, rfl, rfl, _, rfl, ?_⟩
        rw [dec_int', List.length_map, List.length_map]
        by_cases c : (rs[j]).2.length = (rs[0]).2.length
        · rw [decide_eq_true (by rw [c])]
          refine iteF ⟨p1, ws, hB, by omega, ?_⟩
          rcases wh with ⟨w0, all⟩ | wh
          · refine .inl ⟨w0, fun k x hk hx => ?_⟩
            rcases Nat.lt_succ_iff_lt_or_eq.mp hk with z | z
            · exact all k x z hx
            · subst z
              rw [lx hj'] at hx
              rw [← Option.some.inj hx, c, hd0]
          · exact .inr wh
        · rw [decide_eq_false (by omega)]
          refine iteT ⟨.int j, rfl, _, hB, by rw [List.length_map]; exact small_of (by omega), fun b o e => ?_, ws ++ [(j : Int)], ?_, by rw [List.length_append]; show _ + 1 ≤ _; omega, ?_⟩
          · rw [upd_ne (ne_of_none e nB)]
            exact p1 _ _ e
          · rw [upd_same, List.map_append]
            rfl
          · rcases wh with ⟨w0, all⟩ | ⟨j0, r, w0, b0⟩
            · refine .inr ⟨j, [], by rw [w0]; rfl, ?_⟩
              unfold bad
              rw [badAt_go j _ 0 all (by rw [List.length_map]; omega), List.drop_eq_getElem_cons (by rw [List.length_map]; exact hj')]
              show (if _ = _ then _ else _) = _
              rw [List.getElem_map, hd0, if_neg c, Nat.zero_add]
            · exact .inr ⟨j0, r ++ [(j : Int)], by rw [w0]; rfl, b0⟩
      · obtain ⟨p1, ws, hB, wl, wh⟩ := p
        refine ⟨.ref B, rfl, Nat.zero_le _, fun e1 n1 => ?_⟩
        have s1 := same_upd (o := .lst []) n1
        have emp1 : (upd H1 e1 (.lst [])) e1 = some (.lst (([] : List Int).map V.int)) := upd_same
        refine ⟨_, _, .lst (.inl (.inl (s1 _ _ hB))) (dpAll_ints ws), .lst (.inl (.inl emp1)) (dpAll_ints []), ints_shaped ws, ints_shaped [], _, rfl, ?_⟩
        rw [eqv_ints]
        have t1 := p1.trans s1
        have hB2 := s1 _ _ hB
        generalize upd H1 e1 (.lst []) = H2 at *
        have t2 := s0.trans t1
        rcases wh with ⟨w0, all⟩ | ⟨j0, r, w0, b0⟩
        · rw [decide_eq_true w0]
          refine iteF ?_
          have bn : bad rs = none := by
            unfold bad
            rw [er, Int.toNat_natCast] at all
            rw [badAt_go rs.length _ 0 all (by rw [List.length_map]; omega), List.drop_eq_nil_of_le (by rw [List.length_map]; omega)]
            rfl
          have hL2 := t1 _ _ hL0
          have ra2 := ra0.keep t1
          have r02 := ra2 _ (List.getElem_mem l0)
          refine ⟨Nat.zero_le _, fun D nD => ?_⟩
          have start0 : Fd H2 D (clF rs 0) (upd H2 D (.lst [])) := ⟨fun b o e n => by rw [upd_ne n]; exact e, [], upd_same, .nil⟩
          have go : ∀ {H3 : Hp} {cs : List Cm}, Fd H2 D cs H3 → ∀ b o, H2 b = some o → H3 b = some o := fun h b o e => h.1 b o e (ne_of_none e nD)
          refine ⟨_, rfl, _, rfl, by rw [em]; omega, by rw [em]; omega, for_range (n := ((((rs[0]).2.map V.int).length : Nat) : Int).toNat) (fun i σ H3 => Fd H2 D (clF rs i) H3 ∧ ∃ y4 y5 y6 y7 y8, σ = [some (.ref L), some (.int (((rs[0]).2.map V.int).length : Nat)), some (.ref B), some (.ref D), y4, y5, y6, y7, y8]) ⟨start0, _, _, _, _, _, rfl⟩ (fun i σ H3 hi hW => ?_) (fun σ H3 hW => ?_)⟩
          case refine_2 =>
            obtain ⟨fd, y4, y5, y6, y7, y8, rfl⟩ := hW
            have en : ((((rs[0]).2.map V.int).length : Nat) : Int).toNat = (hd rs).length := by rw [List.length_map, hd0]; omega
            rw [en] at fd
            obtain ⟨kp, as, hD, p⟩ := id fd
            refine ⟨.ref D, rfl, D, _, rfl, .inl ⟨.inl (.inl hD), fun l nl => ?_⟩⟩
            have s3 := same_upd (o := .tup (as.map V.ref)) nl
            exact q3 ne bn _ l as (fun b o e => s3 _ _ (go fd _ _ (t2 _ _ e))) upd_same (paired_map p fun a c z => s3 _ _ z)
          obtain ⟨fd, y4, y5, y6, y7, y8, rfl⟩ := hW
          have hi' : i < (rs[0]).2.length := by rw [List.length_map] at hi; omega
          have e2 : (0 : Int) + (i : Int) = (i : Int) := Int.zero_add _
          rw [e2]
          refine ⟨.int i, rfl, i, 1, rfl, rfl, _, rfl, _, _, rfl, ⟨by omega, by omega, by rw [em]; omega, by rw [em]; omega⟩, for_range (lo := (i : Int) + 1) (n := (((((rs[0]).2.map V.int).length : Nat) : Int) - ((i : Int) + 1)).toNat) (fun c σ H4 => Fd H2 D (clF rs i ++ cl1 rs i c) H4 ∧ ∃ y5 y6 y7 y8, σ = [some (.ref L), some (.int (((rs[0]).2.map V.int).length : Nat)), some (.ref B), some (.ref D), some (.int i), y5, y6, y7, y8]) ⟨?_, _, _, _, _, rfl⟩ (fun c σ H4 hc hW => ?_) (fun σ H4 hW => ?_)⟩
          · have z : clF rs i ++ cl1 rs i 0 = clF rs i := by
              show clF rs i ++ [] = _
              rw [List.append_nil]
            rw [z]
            exact fd
          · obtain ⟨fd3, y5, y6, y7, y8, rfl⟩ := hW
            have hc' : i + 1 + c < (rs[0]).2.length := by rw [em] at hc; omega
            have e3 : (i : Int) + 1 + c = ((i + 1 + c : Nat) : Int) := by omega
            rw [e3]
            have keep3 := go fd3
            refine ⟨.ref L, rfl, L, rfl, ⟨_, .inl (.inl (keep3 _ _ hL2))⟩, fun G nG => lc_list (xs := refs rs) (fun j H5 => Same H4 H5 ∧ H5 G = some (.lst ((places (rs.take j) i (i + 1 + c)).map V.int))) ⟨same_upd nG, upd_same⟩ (fun j H5 _ p => .inl (.inl (p.1 _ _ (keep3 _ _ hL2)))) (fun j x H5 hx p => ⟨rfl, ?_⟩) (fun H5 p => ?_)⟩
            · refine iteT (B := Same H4 H5 ∧ H5 G = some (.lst ((places (rs.take (j + 1)) i (i + 1 + c)).map V.int))) ?_
              obtain ⟨p1, p2⟩ := p
              have hj : j < rs.length := by
                have z := (List.getElem?_eq_some_iff.mp hx).1
                rw [refs_len] at z
                exact z
              have ex : x = .ref (rs[j]).1 := by
                rw [refs_at hj] at hx
                exact (Option.some.inj hx).symm
              subst ex
              have rj := ra2 _ (List.getElem_mem hj)
              have lj : (rs[j]).2.length = (rs[0]).2.length := by rw [bad_none bn _ (List.getElem_mem hj), hd0]
              refine ⟨_, rfl, .int i, rfl, .int ((i + 1 + c : Nat) : Int), rfl, (rs[j]).1, (rs[j]).2, i, i + 1 + c, rfl, rj.2.2, p1 _ _ (keep3 _ _ rj.1), by omega, by omega, ?_⟩
              refine ⟨_, p2, ?_, ?_, ?_⟩
              · unfold places
                rw [List.length_map, List.length_map, List.length_take]
                exact small_of (by omega)
              · intro b o hb
                rw [upd_ne (ne_of_none hb nG)]
                exact p1 _ _ hb
              · unfold places
                rw [upd_same, List.take_add_one, List.getElem?_eq_getElem hj, List.map_append, List.map_append]
                rfl
            · obtain ⟨p1, p2⟩ := p
              rw [refs_len, List.take_length] at p2
              have fd5 := fd3.same p1
              have pl0 : (((places rs i (i + 1 + c)).map V.int))[0]? = some (.int ((best (rs[0]).2 i (i + 1 + c - i) : Nat) : Int)) := by
                unfold places
                rw [List.getElem?_map, List.getElem?_map, List.getElem?_eq_getElem l0]
                rfl
              have hL5 := p1 _ _ (keep3 _ _ hL2)
              refine ⟨.ref G, rfl, .ref G, rfl, G, _, _, _, rfl, rfl, .inl (.inl p2), atI_nat (j := 0) pl0, by show 1 ≤ sizeLine; decide, fun G1 nG1 => ?_⟩
              have s6 := same_upd (o := .lst [.int ((best (rs[0]).2 i (i + 1 + c - i) : Nat) : Int)]) nG1
              have eG1 : (upd H5 G1 (.lst [.int ((best (rs[0]).2 i (i + 1 + c - i) : Nat) : Int)])) G1 = some (.lst [.int ((best (rs[0]).2 i (i + 1 + c - i) : Nat) : Int)]) := upd_same
              refine ⟨.ref L, rfl, L, _, rfl, .inl (.inl (.inl (s6 _ _ hL5))), G1, _, _, rfl, rfl, eG1, by rw [er]; omega, by rw [er]; omega, ?_, fun G2 nG2 => ?_⟩
              · rw [er, Int.toNat_natCast]
                show 1 * rs.length ≤ sizeLine
                exact Nat.le_of_lt (small_of (by omega))
              have rp : (List.replicate ((((refs rs).length : Nat)) : Int).toNat [V.int ((best (rs[0]).2 i (i + 1 + c - i) : Nat) : Int)]).flatten = (List.replicate rs.length ((best (hd rs) i (i + 1 + c - i) : Nat) : Int)).map V.int := by
                rw [er, Int.toNat_natCast, List.flatten_replicate_singleton, List.map_replicate, hd0]
              have s7 := same_upd (o := .lst (List.replicate ((((refs rs).length : Nat)) : Int).toNat [V.int ((best (rs[0]).2 i (i + 1 + c - i) : Nat) : Int)]).flatten) nG2
              have s67 := s6.trans s7
              have e7 : (upd (upd H5 G1 (.lst [.int ((best (rs[0]).2 i (i + 1 + c - i) : Nat) : Int)])) G2 (.lst (List.replicate ((((refs rs).length : Nat)) : Int).toNat [V.int ((best (rs[0]).2 i (i + 1 + c - i) : Nat) : Int)]).flatten)) G2 = some (.lst ((List.replicate rs.length ((best (hd rs) i (i + 1 + c - i) : Nat) : Int)).map V.int)) := by rw [upd_same, rp]
              refine ⟨_, _, .lst (.inl (.inl (s67 _ _ p2))) (dpAll_ints _), .lst (.inl (.inl e7)) (dpAll_ints _), ints_shaped _, ints_shaped _, _, rfl, ?_⟩
              rw [eqv_ints, places_holds]
              have fd7 := fd5.same s67
              have p27 := s67 _ _ p2
              generalize upd (upd H5 G1 (.lst [.int ((best (rs[0]).2 i (i + 1 + c - i) : Nat) : Int)])) G2 (.lst (List.replicate ((((refs rs).length : Nat)) : Int).toNat [V.int ((best (rs[0]).2 i (i + 1 + c - i) : Nat) : Int)]).flatten) = H7 at *
              obtain ⟨kp7, as, hD, pr⟩ := id fd7
              have nxt := cl1_succ rs i c
              have l1 := clF_len rs i
              have l2 := cl1_len rs i c
              have l3 : i * (hd rs).length ≤ 12 * 12 := Nat.mul_le_mul (by omega) (by rw [hd0]; omega)
              cases hh : holds rs i (i + 1 + c) with
              | true =>
                refine iteT ?_
                rw [hh, if_pos rfl, hd0] at nxt
                refine ⟨.ref D, rfl, .inl ⟨rfl, _, .inl (.inl hD)⟩, .int i, rfl, .int ((i + 1 + c : Nat) : Int), rfl, .ref G, rfl, G, _, _, _, rfl, rfl, .inl (.inl p27), atI_nat (j := 0) pl0, by show 3 ≤ sizeLine; decide, fun T nT => ?_⟩
                have s8 := same_upd (o := .tup [.int (i : Nat), .int ((i + 1 + c : Nat) : Int), .int ((best (rs[0]).2 i (i + 1 + c - i) : Nat) : Int)]) nT
                have fd8 := fd7.same s8
                have hl := fd8.len (s8 _ _ hD)
                refine ⟨D, _, _, rfl, rfl, s8 _ _ hD, ?_, ?_⟩
                · rw [hl, List.length_append]
                  exact small_of (by omega)
                · rw [nxt, ← List.append_assoc]
                  exact ⟨fd8.add upd_same (s8 _ _ hD), _, _, _, _, rfl⟩
              | false =>
                refine iteF ?_
                rw [hh, if_neg Bool.false_ne_true, List.append_nil] at nxt
                rw [nxt]
                exact ⟨fd7, _, _, _, _, rfl⟩
          · obtain ⟨fd3, y5, y6, y7, y8, rfl⟩ := hW
            have en : (((((rs[0]).2.map V.int).length : Nat) : Int) - ((i : Int) + 1)).toNat = (hd rs).length - (i + 1) := by rw [em, hd0]; omega
            rw [en, ← clF_succ] at fd3
            exact ⟨fd3, _, _, _, _, _, rfl⟩
        · rw [decide_eq_false (by rw [w0]; intro z; cases z)]
          subst w0
          refine iteT ⟨.ref B, rfl, B, _, _, _, rfl, rfl, .inl (.inl hB2), atI_nat (j := 0) rfl, by show 2 ≤ sizeLine; decide, fun r' nr => ?_⟩
          exact q2 j0 b0 _ r' (t2.trans (same_upd nr)) upd_same
end
end Lw
namespace Lw
open PySem PySem.Spec PyProof.Rows L2 Gd
abbrev sSome : Stmt := topS 20
abbrev someN : List Str := ["_law_stream_here", "_law_row_here", "_law_found", "_law_k", "_law_spot", "_law_other", "_law_entry", "_law_near"]
theorem scSome : FnScope someN ["_law_stream_here"] (defScope sSome) := ⟨rfl, rfl, rfl, by decide +kernel, rfl, by decide +kernel, by decide +kernel⟩
def BdL (ms : List Int) : Prop := ∀ x ∈ ms, -1000000000 ≤ x ∧ x ≤ 1000000000
def GoodT (H : Hp) (v : V) : Prop := ∃ (p : Addr) (ms : List Int), v = .ref p ∧ H p = some (.tup (ms.map V.int)) ∧ 1 ≤ ms.length ∧ ms.length ≤ 9 ∧ BdL ms
theorem GoodT.keep {H H' : Hp} {v : V} {s a b : Addr} {n : Nat} (h : GoodT H v) (sm : Sm H s a b n) (k : Kp (Av s a) H H') : GoodT H' v := by
  obtain ⟨p, ms, rfl, hp, r⟩ := h
  exact ⟨p, ms, rfl, k _ _ hp (sm.navT hp), r⟩
theorem GoodT.upd {H : Hp} {v : V} {F : Addr} {xs ys : List V} (h : GoodT H v) (hF : H F = some (.lst xs)) : GoodT (upd H F (.lst ys)) v := by
  obtain ⟨p, ms, rfl, hp, r⟩ := h
  have : p ≠ F := fun e => by rw [e, hF] at hp; cases hp
  exact ⟨p, ms, rfl, by rw [upd_ne this]; exact hp, r⟩
def Bd (v : V) : Prop := ∃ i : Int, v = .int i ∧ -1000000000 ≤ i ∧ i ≤ 1000000000
theorem ints_of : ∀ xs : List V, (∀ x ∈ xs, Bd x) → ∃ ms : List Int, xs = ms.map V.int ∧ BdL ms
  | [], _ => ⟨[], rfl, fun _ z => nomatch z⟩
  | x :: r, h => by
    obtain ⟨ms, e, b⟩ := ints_of r fun y hy => h y (List.mem_cons_of_mem _ hy)
    obtain ⟨i, rfl, hi⟩ := h x List.mem_cons_self
    refine ⟨i :: ms, by rw [e]; rfl, fun y hy => ?_⟩
    rcases List.mem_cons.mp hy with rfl | hy
    · exact hi
    · exact b y hy
theorem good_of {H : Hp} {p : Addr} {xs : List V} (e : H p = some (.tup xs)) (h : ∀ x ∈ xs, Bd x) (h1 : 1 ≤ xs.length) (h2 : xs.length ≤ 9) : GoodT H (.ref p) := by
  obtain ⟨ms, rfl, b⟩ := ints_of xs h
  rw [List.length_map] at h1 h2
  exact ⟨p, ms, rfl, e, h1, h2, b⟩
theorem bd_map {ms : List Int} (b : BdL ms) : ∀ x ∈ ms.map V.int, Bd x := fun x hx => by
  obtain ⟨i, hi, rfl⟩ := List.mem_map.mp hx
  exact ⟨i, rfl, b i hi⟩
def spSome : Sp := fun vs H Q _ => ∃ (s a b : Addr) (n : Nat), vs = [.ref s] ∧ Sm H s a b n ∧ n < 800000 ∧
  ∀ H' L (rs : List Rw), Sm H' s a b (n + 300) → H' L = some (.lst (refs rs)) → RowsAt H' rs → rs.length ≤ 4 → (∀ r ∈ rs, BdL r.2) → Q (.ref L) H'
theorem rows_of {H : Hp} : ∀ vs : List V, (∀ v ∈ vs, GoodT H v) → ∃ rs : List Rw, vs = refs rs ∧ RowsAt H rs ∧ rs.length = vs.length ∧ ∀ r ∈ rs, BdL r.2
  | [], _ => ⟨[], rfl, (fun _ z => nomatch z : ∀ r ∈ [], _), rfl, fun _ z => nomatch z⟩
  | v :: l, h => by
    obtain ⟨rs, e, ra, ln, bd⟩ := rows_of l fun y hy => h y (List.mem_cons_of_mem _ hy)
    obtain ⟨p, ms, rfl, hp, h1, h2, b⟩ := h v List.mem_cons_self
    refine ⟨(p, ms) :: rs, by rw [e]; rfl, fun r hr => ?_, by rw [List.length_cons, List.length_cons, ln], fun r hr => ?_⟩
    · rcases List.mem_cons.mp hr with rfl | hr
      · exact ⟨hp, h1, by show ms.length ≤ 12; omega⟩
      · exact ra r hr
    · rcases List.mem_cons.mp hr with rfl | hr
      · exact b
      · exact bd r hr
theorem len_rep {α : Type} (xs : List α) : ∀ n : Nat, ((List.replicate n xs).flatten).length = n * xs.length
  | 0 => by rw [Nat.zero_mul]; rfl
  | n + 1 => by
    rw [List.replicate_succ, List.flatten_cons, List.length_append, len_rep xs n, Nat.succ_mul, Nat.add_comm]
theorem cut_lo {xs : List V} {j : Nat} : (cutV xs none (some (j : Int))).length = min j xs.length := by
  unfold cutV
  rw [HT.sIx_none, HT.sIx_nat, List.drop_zero, Nat.sub_zero, List.length_take]
  omega
theorem cut_hi {xs : List V} {j : Nat} : (cutV xs (some (j : Int)) none).length = xs.length - j := by
  unfold cutV
  rw [HT.sIx_none, HT.sIx_nat, List.length_take, List.length_drop]
  omega
theorem entB (x : Int) : Bd (.int (if (if x < 10 ^ (9 : Int).toNat then x else 10 ^ (9 : Int).toNat) > 0 - 10 ^ (9 : Int).toNat then (if x < 10 ^ (9 : Int).toNat then x else 10 ^ (9 : Int).toNat) else 0 - 10 ^ (9 : Int).toNat)) := by
  have p : ((10 : Int) ^ (9 : Int).toNat) = 1000000000 := by decide
  rw [p]
  refine ⟨_, rfl, ?_, ?_⟩ <;> split <;> split <;> omega
section
variable {P : Program} {w : World} {K : PySem.W.Frag} {mg : Str → Option Value} {base : Heap}
theorem ok_some {f fD fR fP : Addr} {fd fdD fdR fdP : FuncData} {k : Nat} (F : Fun K "_law_some_rows" "_law_some_rows" sSome f fd)
    (GD : FnOk P w K mg base CX0 k fD fdD ["_law_stream_here", "_law_many"] spDraw) (kD : PySem.W.keepIn K (.ref fD) = true) (bD : Binds K fdD ["_law_stream_here", "_law_many"] []) (gD : mg "_law_draw" = some (.ref fD))
    (GR : FnOk P w K mg base CX0 k fR fdR ["_law_stream_here", "_law_most"] spRow) (kR : PySem.W.keepIn K (.ref fR) = true) (bR : Binds K fdR ["_law_stream_here", "_law_most"] []) (gR : mg "_law_row" = some (.ref fR))
    (GP : FnOk P w K mg base CX0 k fP fdP ["_law_stream_here", "_law_items"] spPick) (kP : PySem.W.keepIn K (.ref fP) = true) (bP : Binds K fdP ["_law_stream_here", "_law_items"] []) (gP : mg "_law_pick" = some (.ref fP))
    (ml : mg "len" = none) (mr : mg "range" = none) (mx : mg "max" = none) (mn : mg "min" = none) : FnOk P w K mg base CX0 (k + 1) f fd ["_law_stream_here"] spSome := by
  refine F.ok scSome (fun vs H Q E h => ?_) (fun cdv A outer st H vs Q E hr h => ?_)
  · obtain ⟨s, a, b, n, rfl, _⟩ := h
    rfl
  · obtain ⟨s, a, b, n, rfl, sm, hn, q⟩ := h
    refine ⟨_, pss_cons (ps_set (i := 1) scSome.nd rfl (.inl rfl) (pe_call GR hr (by rfl) gR kR bR .nil pass0 (pa_cons (pv 0) (pa_cons pe_int pa_nil))))
      (pss_cons (ps_set (i := 2) scSome.nd rfl (.inl rfl) (pe_lst (pa_cons (pv 1) pa_nil)))
      (pss_cons (ps_for PassesOwn.never rfl (pi_range1 (by rfl) mr (pa_cons pe_int pa_nil)) (pg_name (i := 3) scSome.nd rfl (.inl rfl))
        (pss_cons (ps_par (i := 4) (j := 5) (by rfl) scSome.nd rfl rfl (by decide) rfl rfl (pa_cons (pe_call GD hr (by rfl) gD kD bD .nil pass0 (pa_cons (pv 0) (pa_cons (pe_callB call_len_seq (by rfl) ml PySem.boot_len (pa_cons (pv 1) pa_nil)) pa_nil))) (pa_cons (pe_call GR hr (by rfl) gR kR bR .nil pass0 (pa_cons (pv 0) (pa_cons pe_int pa_nil))) pa_nil)) (by rfl))
        (pss_cons (ps_set (i := 6) scSome.nd rfl (.inl rfl) (pe_callB (call_max2 rfl) (by rfl) mx (by decide +kernel) (pa_cons (pe_op op_sub pe_int (pe_op op_pow pe_int pe_int)) (pa_cons (pe_callB (call_min2 rfl) (by rfl) mn (by decide +kernel) (pa_cons (pe_op op_pow pe_int pe_int)
            (pa_cons (pe_op op_sub (pe_op op_add (pe_ix ix_tup (pv 1) (pv 4) (fun _ _ => rfl)) pe_int) (pe_call GD hr (by rfl) gD kD bD .nil pass0 (pa_cons (pv 0) (pa_cons pe_int pa_nil)))) pa_nil))) pa_nil))))
        (pss_cons (ps_set (i := 7) scSome.nd rfl (.inl rfl) (pe_op op_catA (pe_op op_catA (pe_slice sl_tupA (pv 1) po_none (po_some (pv 4))) (pe_tup (pa_cons (pv 6) pa_nil))) (pe_slice sl_tupA (pv 1) (po_some (pe_op op_add (pv 4) pe_int)) po_none)))
        (pss_one (ps_expr (pe_bm PySem.F.plainAttrs_list PySem.F.slot_list_append PySem.F.type_list_append mt_append (pv 2) (pa_cons (pe_call GP hr (by rfl) gP kP bP .nil pass0 (pa_cons (pv 0) (pa_cons
            (pe_lst (pa_cons (pv 1) (pa_cons (pv 7) (pa_cons (pv 7) (pa_cons (pe_slice sl_tupA (pe_op op_repT (pv 5) pe_int) po_none (po_some (pe_callB call_len_seq (by rfl) ml PySem.boot_len (pa_cons (pv 1) pa_nil)))) (pa_cons (pv 5) pa_nil)))))) pa_nil))) pa_nil))))))))
      (pss_one (ps_ret (pe_slice sl_list (pv 2) po_none (po_some (pe_call GD hr (by rfl) gD kD bD .nil pass0 (pa_cons (pv 0) (pa_cons pe_int pa_nil))))))))), ?_⟩
    have one : 1 ≤ sizeLine := by decide
    refine ⟨.ref s, rfl, s, a, b, n, 9, rfl, sm, by omega, by decide, by decide, fun H1 p0 ns k1 sm1 _ hp1 l1 l9 bd => ?_⟩
    have l9' : ns.length ≤ 9 := by omega
    refine ⟨.ref p0, rfl, one, fun F0 nF => ?_⟩
    have s2 := same_upd (o := .lst [.ref p0]) nF
    obtain ⟨o1, o2, o3⟩ := sm1.off nF
    have nvF := sm1.nav nF
    refine ⟨3, rfl, by decide, by decide, for_range (n := (3 : Int).toNat) (fun i σ H3 => Sm H3 s a b (n + 50 + 60 * i) ∧ H3 p0 = some (.tup (ns.map V.int)) ∧ (∃ vs : List V, H3 F0 = some (.lst vs) ∧ vs.length ≤ i + 1 ∧ ∀ v ∈ vs, GoodT H3 v) ∧ ∃ y3 y4 y5 y6 y7, σ = [some (.ref s), some (.ref p0), some (.ref F0), y3, y4, y5, y6, y7])
      ⟨sm1.keep s2, s2 _ _ hp1, ⟨_, upd_same, Nat.le_refl _, fun v hv => ?_⟩, _, _, _, _, _, rfl⟩ (fun i σ H3 hi0 hW => ?_) (fun σ H3 hW => ?_)⟩
    · rw [List.mem_singleton.mp hv]
      exact ⟨p0, ns, rfl, s2 _ _ hp1, l1, l9', bd⟩
    · obtain ⟨sm3, hp3, ⟨vs, hF3, vl, vg⟩, y3, y4, y5, y6, y7, rfl⟩ := hW
      have hi : i < 3 := hi0
      have el : ((((ns.map V.int).length : Nat)) : Int) = ((ns.length : Nat) : Int) := by rw [List.length_map]
      refine ⟨.ref s, rfl, .ref p0, rfl, p0, _, rfl, .inr (.inl (.inl hp3)), s, a, b, _, _, rfl, sm3, by omega, by rw [el]; omega, by rw [el]; omega, fun H4 r4 k4 sm4 r40 r41 => ?_⟩
      rw [el] at r41
      obtain ⟨sp, rfl⟩ : ∃ sp : Nat, r4 = (sp : Int) := ⟨r4.toNat, by omega⟩
      have hsp : sp < ns.length := by omega
      refine ⟨.ref s, rfl, s, a, b, _, 9, rfl, sm4, by omega, by decide, by decide, fun H5 po os k5 sm5 _ ho o1' o9 bo => ?_⟩
      have k35 := k4.trans k5
      have hp5 := k35 _ _ hp3 (sm3.navT hp3)
      have hF5 := k35 _ _ hF3 nvF
      have vg5 : ∀ v ∈ vs, GoodT H5 v := fun v hv => (vg v hv).keep sm3 k35
      refine ⟨.int sp, .ref po, rfl, ?_⟩
      -- _law_entry
      refine ⟨10, 9, rfl, rfl, ⟨by decide, by decide, by decide⟩, 0, _, rfl, rfl, 10, 9, rfl, rfl, ⟨by decide, by decide, by decide⟩, .ref p0, rfl, .int sp, rfl, p0, _, _, _, rfl, rfl, .inl (.inl hp5), getD_at hsp, _, 1, rfl, rfl, .ref s, rfl, s, a, b, _, 3, rfl, sm5, by omega, by decide, by decide, fun H6 r6 k6 sm6 r60 r61 => ?_⟩
      refine ⟨_, r6, rfl, rfl, _, _, rfl, _, _, rfl, ?_⟩
      have bE := entB (ns.getD sp 0 + 1 - r6)
      have k36 := k35.trans k6
      have hp6 := k6 _ _ hp5 (sm5.navT hp5)
      have ho6 := k6 _ _ ho (sm5.navT ho)
      have hF6 := k6 _ _ hF5 nvF
      have vg6 : ∀ v ∈ vs, GoodT H6 v := fun v hv => (vg5 v hv).keep sm5 k6
      have cl : ∀ lo hi, (cutV (ns.map V.int) lo hi).length ≤ ns.length := fun lo hi => by have := cutV_length (ns.map V.int) lo hi; rw [List.length_map] at this; exact this
      -- _law_near
      refine ⟨.ref p0, rfl, .int sp, rfl, sp, rfl, sla_of hp6 fun a1 G1 g1 ea1 => ⟨_, rfl, one, fun a2 na2 => cata_of (same_upd na2 _ _ ea1) upd_same (Nat.le_of_lt (small_of (by have := cl none (some sp); show _ + 1 ≤ _; omega))) fun a3 G3 g3 ea3 => ?_⟩⟩
      have c3 : Same H6 G3 := g1.trans ((same_upd na2).trans g3)
      refine ⟨.ref p0, rfl, .int sp, rfl, sp, 1, rfl, rfl, _, rfl, sla_hi (c3 _ _ hp6) fun a4 G4 g4 ea4 => cata_of (g4 _ _ ea3) ea4 (Nat.le_of_lt (small_of (by have := cl none (some sp); have := cl (some ((sp : Int) + 1)) none; rw [List.length_append]; show _ + 1 + _ ≤ _; omega))) fun a5 G5 g5 ea5 => ?_⟩
      have c5 : Same H6 G5 := c3.trans (g4.trans g5)
      have e1 : (sp : Int) + 1 = ((sp + 1 : Nat) : Int) := by omega
      have near : GoodT G5 (.ref a5) := by
        refine good_of ea5 (fun x hx => ?_) ?_ ?_
        · rcases List.mem_append.mp hx with hx | hx
          · rcases List.mem_append.mp hx with hx | hx
            · exact bd_map bd x (cut_mem hx)
            · rw [List.mem_singleton.mp hx]
              exact bE
          · exact bd_map bd x (cut_mem hx)
        · rw [List.length_append, List.length_append]
          show 1 ≤ _ + 1 + _
          omega
        · rw [List.length_append, List.length_append, e1, cut_lo, cut_hi, List.length_map]
          show _ + 1 + _ ≤ 9
          omega
      clear ea1 ea3 ea4 ea5 g1 na2 g3 g4 g5 c3
      have sm7 := sm6.keep c5
      have hF7 := c5 _ _ hF6
      have hp7 := c5 _ _ hp6
      have ho7 := c5 _ _ ho6
      -- the append
      refine ⟨.ref F0, rfl, .inl ⟨rfl, _, .inl (.inl hF7)⟩, .ref s, rfl, .ref p0, rfl, .ref a5, rfl, .ref a5, rfl, .ref po, rfl, po, 9, _, rfl, rfl, .inl (.inl ho7), ?_, by decide, by decide, ?_, fun b1 nb1 => ?_⟩
      · intro z
        have := congrArg List.length z
        rw [List.length_map] at this
        have t0 : os.length = 0 := this
        omega
      · rw [List.length_map]
        omega
      have d1 := same_upd (o := .tup (List.replicate (9 : Int).toNat (os.map V.int)).flatten) nb1
      refine ⟨.ref p0, rfl, p0, _, rfl, .inr (.inl (.inl (d1 _ _ hp7))), _, rfl, sla_of upd_same fun b2 G7 g7 eb2 => ?_⟩
      have c7 : Same G5 G7 := d1.trans g7
      have rep : GoodT G7 (.ref b2) := by
        have lf : ((List.replicate (9 : Int).toNat (os.map V.int)).flatten).length = 9 * os.length := by
          have z := len_rep (os.map V.int) 9
          rw [List.length_map] at z
          exact z
        refine good_of eb2 (fun x hx => ?_) ?_ ?_
        · obtain ⟨l, hl, hx⟩ := List.mem_flatten.mp (cut_mem hx)
          rw [List.eq_of_mem_replicate hl] at hx
          exact bd_map bo x hx
        · rw [cut_lo, lf, List.length_map]
          omega
        · rw [cut_lo, lf, List.length_map]
          omega
      refine ⟨.ref po, rfl, by show 5 ≤ sizeLine; decide, fun l nl => ?_⟩
      have s8 := same_upd (o := .lst [.ref p0, .ref a5, .ref a5, .ref b2, .ref po]) nl
      have sm8 := (sm7.keep c7).keep s8
      have nvl := (sm7.keep c7).nav nl
      have c8 : Same H6 _ := c5.trans (c7.trans s8)
      have goods : ∀ v ∈ ([.ref p0, .ref a5, .ref a5, .ref b2, .ref po] : List V), GoodT (upd G7 l (.lst [.ref p0, .ref a5, .ref a5, .ref b2, .ref po])) v := by
        intro v hv
        simp only [List.mem_cons, List.not_mem_nil, or_false] at hv
        rcases hv with rfl | rfl | rfl | rfl | rfl
        · exact ⟨p0, ns, rfl, c8 _ _ hp6, l1, l9', bd⟩
        · exact (near.keep sm7 (Kp.of_same c7)).keep (sm7.keep c7) (Kp.of_same s8)
        · exact (near.keep sm7 (Kp.of_same c7)).keep (sm7.keep c7) (Kp.of_same s8)
        · exact rep.keep (sm7.keep c7) (Kp.of_same s8)
        · exact ⟨po, os, rfl, c8 _ _ ho6, o1', by omega, bo⟩
      have hF8 := c8 _ _ hF6
      have hp8 := c8 _ _ hp6
      have vg8 : ∀ v ∈ vs, GoodT _ v := fun v hv => (vg6 v hv).keep sm6 (Kp.of_same c8)
      refine ⟨s, a, b, l, _, _, rfl, sm8, by omega, upd_same, nvl, by simp, by show 5 ≤ 1000; decide, fun H9 v k9 sm9 hv => ?_⟩
      have hF9 := k9 _ _ hF8 nvF
      refine ⟨F0, vs, v, rfl, rfl, hF9, small_of (by omega), ?_⟩
      refine ⟨(sm_upd sm9 o1 o2 o3).mono (by omega), ?_, ⟨_, upd_same, by rw [List.length_append]; show _ + 1 ≤ _; omega, fun u hu => ?_⟩, _, _, _, _, _, rfl⟩
      · have : p0 ≠ F0 := fun e => by have z := hp6; rw [e, hF6] at z; cases z
        rw [upd_ne this]
        exact k9 _ _ hp8 (sm8.navT hp8)
      · rcases List.mem_append.mp hu with hu | hu
        · exact ((vg8 u hu).keep sm8 k9).upd hF9
        · rw [List.mem_singleton.mp hu]
          exact ((goods v hv).keep sm8 k9).upd hF9
    · obtain ⟨sm3, hp3, ⟨vs, hF3, vl, vg⟩, y3, y4, y5, y6, y7, rfl⟩ := hW
      have vl' : vs.length ≤ 4 := vl
      refine ⟨.ref F0, rfl, .ref s, rfl, s, a, b, _, 5, rfl, sm3, by show n + 50 + 60 * 3 < _; omega, by decide, by decide, fun H4 r k4 sm4 r0 r1 => ?_⟩
      have hF4 := k4 _ _ hF3 nvF
      refine ⟨_, rfl, F0, _, rfl, .inl (.inl hF4), fun L nL => ?_⟩
      have s5 := same_upd (o := .lst (cutV vs none (some r))) nL
      obtain ⟨rs, e, ra, ln, bb⟩ := rows_of (H := upd H4 L (.lst (cutV vs none (some r)))) (cutV vs none (some r)) fun v hv => ((vg v (cut_mem hv)).keep sm3 k4).keep sm4 (Kp.of_same s5)
      refine q _ L rs ((sm4.keep s5).mono (by show n + 50 + 60 * 3 + 1 ≤ _; omega)) (by rw [← e]; exact upd_same) ra ?_ bb
      have := cutV_length vs none (some r)
      omega
end
end Lw
namespace Lw
open PySem PySem.Spec PyProof.Rows L2 Gd
abbrev sLaw : Stmt := topS 23
abbrev lawN : List Str := ["_law_script", "_law_stream_here", "_law_turn", "_law_rows", "_law_shown"]
theorem scLaw : FnScope lawN ["_law_script"] (defScope sLaw) := ⟨rfl, rfl, rfl, by decide +kernel, rfl, by decide +kernel, by decide +kernel⟩
def spLaw (K : PySem.W.Frag) : Sp := fun vs H Q _ => ∃ (sc : Addr) (ns : List Int), vs = [.ref sc] ∧ SqL K H sc (ns.map V.int) ∧ ns.length ≤ 63 ∧ ∀ H', Q (.bl true) H'
abbrev av0 : Addr → Prop := fun _ => False
structure Fits (d : PyData) : Prop where
  sh : d.showable = true
  ln : d.shown.length ≤ sizeLine
  dp : d.depth ≤ 60
theorem fits_of {d : PyData} (h1 : d.showable = true) (h2 : d.leavesShort 100 = true) (h3 : d.weight ≤ 150000) (h4 : d.depth ≤ 60) : Fits d := by
  refine ⟨h1, ?_, h4⟩
  have z := PyData.shown_le 100 (by decide) _ h2
  exact Nat.le_trans z (Nat.le_of_lt (Nat.lt_of_le_of_lt (by omega : _ ≤ 102 * 150000 + 100) (by decide)))
/-- small data of any depth -/
structure Sml (w k : Nat) (d : PyData) : Prop where
  sh : d.showable = true
  lv : d.leavesShort 100 = true
  wt : d.weight ≤ w
  dp : d.depth ≤ k
theorem sml_int {i : Int} (h : i.natAbs < 10 ^ 30) : Sml 200 0 (.int i) := by
  obtain ⟨d, hd, s⟩ := It.int (av := av0) (H := fun _ => none) (i := i) h
  cases hd
  exact ⟨s.sh, s.lv, s.wt, by rw [PyData.depth]; omega⟩
theorem sml_all {w k : Nat} : ∀ ds : List PyData, (∀ d ∈ ds, Sml w k d) → PyData.showableAll ds = true ∧ PyData.leavesShortAll 100 ds = true ∧ PyData.weightAll ds ≤ (w + 1) * ds.length ∧ PyData.depthAll ds ≤ k
  | [], _ => ⟨rfl, rfl, by simp [PyData.weightAll], by simp [PyData.depthAll]⟩
  | d :: r, h => by
    obtain ⟨i1, i2, i3, i4⟩ := sml_all r fun x hx => h x (List.mem_cons_of_mem _ hx)
    have s := h d List.mem_cons_self
    have w1 := s.wt
    have d1 := s.dp
    refine ⟨?_, ?_, ?_, ?_⟩
    · rw [PyData.showableAll, s.sh, i1]
      rfl
    · rw [PyData.leavesShortAll, s.lv, i2]
      rfl
    · rw [PyData.weightAll, List.length_cons, Nat.mul_add, Nat.mul_one]
      omega
    · rw [PyData.depthAll]
      omega
theorem sml_tup {w k n : Nat} {ds : List PyData} (h : ∀ d ∈ ds, Sml w k d) (hn : ds.length ≤ n) : Sml ((w + 1) * n + 2) (k + 1) (.tuple ds) := by
  obtain ⟨i1, i2, i3, i4⟩ := sml_all ds h
  have m : (w + 1) * ds.length ≤ (w + 1) * n := Nat.mul_le_mul_left _ hn
  refine ⟨by rw [PyData.showable]; exact i1, by rw [PyData.leavesShort]; exact i2, ?_, ?_⟩
  · rw [PyData.weight]
    omega
  · rw [PyData.depth]
    omega
theorem sml_lst {w k n : Nat} {ds : List PyData} (h : ∀ d ∈ ds, Sml w k d) (hn : ds.length ≤ n) : Sml ((w + 1) * n + 2) (k + 1) (.list ds) := by
  obtain ⟨i1, i2, i3, i4⟩ := sml_all ds h
  have m : (w + 1) * ds.length ≤ (w + 1) * n := Nat.mul_le_mul_left _ hn
  refine ⟨by rw [PyData.showable]; exact i1, by rw [PyData.leavesShort]; exact i2, ?_, ?_⟩
  · rw [PyData.weight]
    omega
  · rw [PyData.depth]
    omega
theorem Sml.fits {w k : Nat} {d : PyData} (s : Sml w k d) (hw : w ≤ 150000) (hk : k ≤ 60) : Fits d := fits_of s.sh s.lv (Nat.le_trans s.wt hw) (Nat.le_trans s.dp hk)
theorem rows_fits {rs : List Rw} {H : Hp} (ra : RowsAt H rs) (r4 : rs.length ≤ 4) (bd : ∀ r ∈ rs, BdL r.2) : Fits (.list (rowsD rs)) := by
  refine (sml_lst (w := 201 * 12 + 2) (k := 1) (n := 4) (fun d hd => ?_) (by unfold rowsD; rw [List.length_map]; exact r4)).fits (by decide) (by decide)
  obtain ⟨r, hr, rfl⟩ := List.mem_map.mp hd
  refine sml_tup (fun x hx => ?_) (by rw [List.length_map]; exact (ra r hr).2.2)
  obtain ⟨i, hi, rfl⟩ := List.mem_map.mp hx
  have := bd r hr i hi
  exact sml_int (by omega)
theorem row_dv {av : Addr → Prop} {H : Hp} {p : Addr} {ns : List Int} (e : H p = some (.tup (ns.map V.int))) (n : ¬ av p) : Dv av H (.ref p) (.tuple (ns.map PyData.int)) := by
  have key : ∀ ns : List Int, Paired (Dv av H) (ns.map V.int) (ns.map PyData.int) := by
    intro ns
    induction ns with
    | nil => exact .nil
    | cons n r ih => exact .cons (.int n) ih
  exact .tup e n (Paired.length (key ns)) (paired_ix (key ns))
theorem rows_dv {H : Hp} {L : Addr} {rs : List Rw} (e : H L = some (.lst (refs rs))) (ra : RowsAt H rs) : Dv av0 H (.ref L) (.list (rowsD rs)) := by
  have key : ∀ rs : List Rw, RowsAt H rs → Paired (Dv av0 H) (refs rs) (rowsD rs) := by
    intro rs
    induction rs with
    | nil => intro _; exact .nil
    | cons r l ih => intro h; exact .cons (row_dv (h r List.mem_cons_self).1 id) (ih fun x hx => h x (List.mem_cons_of_mem _ hx))
  exact .lst e id (Paired.length (key rs ra)) (paired_ix (key rs ra))
def cD (c : Cm) : PyData := .tuple [.int (c.1 : Nat), .int (c.2.1 : Nat), .int (c.2.2 : Nat)]
theorem claims_dv {H : Hp} {p : Addr} {as : List Addr} {cs : List Cm} (e : H p = some (.tup (as.map V.ref))) (h : Paired (CAt H) as cs) : Dv av0 H (.ref p) (.tuple (cs.map cD)) := by
  have key : Paired (Dv av0 H) (as.map V.ref) (cs.map cD) := by
    clear e
    induction h with
    | nil => exact .nil
    | cons r _ ih => exact .cons (.tup r id rfl (paired_ix (.cons (.int _) (.cons (.int _) (.cons (.int _) .nil))))) ih
  exact .tup e id (Paired.length key) (paired_ix key)
def dat (rs : List Rw) : Option Nat → PyData
  | some j => .list [.str "not alike", .int (j : Nat)]
  | none => .tuple ((claims rs).map cD)
def dataOf (rs : List Rw) : PyData := match rs with
  | [] => .list [.str "no rows"]
  | r :: l => dat (r :: l) (bad (r :: l))
theorem bad_lt {rs : List Rw} {j : Nat} (h : bad rs = some j) : j < rs.length := by
  have key : ∀ (m : Nat) (l : List Nat) (i j : Nat), badAt m l i = some j → j < i + l.length := by
    intro m l
    induction l with
    | nil => intro i j h; cases h
    | cons x r ih =>
      intro i j h
      unfold badAt at h
      split at h
      · have := ih _ _ h
        rw [List.length_cons]
        omega
      · cases h
        rw [List.length_cons]
        omega
  have := key _ _ _ _ h
  rw [List.length_map] at this
  omega
theorem told_uni {vs : List V} {H : Hp} {Q : VK} {E : XK} {L : Addr} {rs : List Rw} (ev : vs = [.ref L]) (hL : H L = some (.lst (refs rs))) (ra : RowsAt H rs) (r4 : rs.length ≤ 4) (q : ∀ H' v, Same H H' → Dv av0 H' v (dataOf rs) → Q v H') : spTold vs H Q E := by
  subst ev
  refine ⟨L, rs, rfl, hL, ra, r4, fun e H' r s z => ?_, fun j e H' r s z => ?_, fun ne e H' p as s z pr => ?_⟩
  · subst e
    exact q H' _ s (.lst z id rfl (paired_ix (.cons (.str _) .nil)))
  · cases rs with
    | nil => cases e
    | cons x l =>
      have d : dataOf (x :: l) = .list [.str "not alike", .int (j : Nat)] := by
        show dat (x :: l) (bad (x :: l)) = _
        rw [e]
        rfl
      rw [d] at q
      exact q H' _ s (.lst z id rfl (paired_ix (.cons (.str _) (.cons (.int _) .nil))))
  · cases rs with
    | nil => exact absurd rfl ne
    | cons x l =>
      have d : dataOf (x :: l) = .tuple ((claims (x :: l)).map cD) := by
        show dat (x :: l) (bad (x :: l)) = _
        rw [e]
        rfl
      rw [d] at q
      exact q H' _ s (claims_dv z pr)
theorem data_fits {rs : List Rw} {H : Hp} (ra : RowsAt H rs) (r4 : rs.length ≤ 4) : Fits (dataOf rs) := by
  have st : ∀ x : Str, (PyData.str x).leavesShort 100 = true → (PyData.str x).weight ≤ 200 → Sml 200 0 (.str x) := fun x h1 h2 => ⟨by rw [PyData.showable], h1, h2, by rw [PyData.depth]; omega⟩
  cases rs with
  | nil =>
    refine (sml_lst (w := 200) (k := 0) (n := 1) (fun d hd => ?_) (Nat.le_refl _)).fits (by decide) (by decide)
    rw [List.mem_singleton.mp hd]
    exact st _ (by decide +kernel) (by decide +kernel)
  | cons x l =>
    show Fits (dat (x :: l) (bad (x :: l)))
    cases e : bad (x :: l) with
    | some j =>
      have := bad_lt e
      show Fits (.list [.str "not alike", .int (j : Nat)])
      refine (sml_lst (w := 200) (k := 0) (n := 2) (fun d hd => ?_) (Nat.le_refl _)).fits (by decide) (by decide)
      rcases List.mem_cons.mp hd with rfl | hd
      · exact st _ (by decide +kernel) (by decide +kernel)
      · rw [List.mem_singleton.mp hd]
        exact sml_int (by omega)
    | none =>
      have m12 : (hd (x :: l)).length ≤ 12 := (ra x List.mem_cons_self).2.2
      have cl := clF_len (x :: l) (hd (x :: l)).length
      have mm : (hd (x :: l)).length * (hd (x :: l)).length ≤ 12 * 12 := Nat.mul_le_mul m12 m12
      show Fits (.tuple ((claims (x :: l)).map cD))
      refine (sml_tup (w := 201 * 3 + 2) (k := 1) (n := 144) (fun d hd' => ?_) ?_).fits (by decide) (by decide)
      · obtain ⟨c, hc, rfl⟩ := List.mem_map.mp hd'
        unfold claims clF cl1 at hc
        obtain ⟨f, hf, hc⟩ := List.mem_flatMap.mp hc
        obtain ⟨k, hk, hc⟩ := List.mem_filterMap.mp hc
        have f1 := List.mem_range.mp hf
        have k1 := List.mem_range.mp hk
        split at hc
        · cases hc
          have b := best_le (hd (x :: l)) f (f + 1 + k - f)
          refine sml_tup (fun y hy => ?_) (Nat.le_refl _)
          simp only [List.mem_cons, List.not_mem_nil, or_false] at hy
          rcases hy with rfl | rfl | rfl
          · exact sml_int (by omega)
          · exact sml_int (by omega)
          · exact sml_int (by omega)
        · cases hc
      · rw [List.length_map]
        show (clF _ _).length ≤ 144
        omega
section
variable {P : Program} {w : World} {K : PySem.W.Frag} {mg : Str → Option Value} {base : Heap}
structure Cal (P : Program) (w : World) (K : PySem.W.Frag) (mg : Str → Option Value) (base : Heap) (k : Nat) (x : Str) (f : Addr) (fd : FuncData) (ps : List Str) (sp : Sp) : Prop where
  G : FnOk P w K mg base CX0 k f fd ps sp
  kp : PySem.W.keepIn K (.ref f) = true
  b : Binds K fd ps []
  g : mg x = some (.ref f)
theorem ok_law {f fS fR fT fU : Addr} {fd dS dR dT dU : FuncData} {k : Nat} (F : Fun K "law" "law" sLaw f fd)
    (CS : Cal P w K mg base k "_law_stream" fS dS ["_law_script"] (spStream K)) (CR : Cal P w K mg base k "_law_some_rows" fR dR ["_law_stream_here"] spSome) (CT : Cal P w K mg base k "_law_told" fT dT ["_law_rows"] spTold)
    (CU : Cal P w K mg base k "_law_due" fU dU ["_law_rows"] spTold) (mr : mg "range" = none) (mp : mg "repr" = none) : FnG P w K mg base CX0 (k + 1) f fd ["_law_script"] (spLaw K) := by
  refine fnG_of F scLaw (fun vs H Q E h => ?_) (fun cdv A outer st H vs Q E hr hg h => ?_)
  · obtain ⟨sc, ns, rfl, _⟩ := h
    rfl
  · obtain ⟨sc, ss, rfl, hS, hlen, q⟩ := h
    refine ⟨_, pss_cons (ps_set (i := 1) scLaw.nd rfl (.inl rfl) (pe_call CS.G hr (by rfl) CS.g CS.kp CS.b .nil pass0 (pa_cons (pv 0) pa_nil)))
      (pss_cons (ps_for PassesOwn.never rfl (pi_range1 (by rfl) mr (pa_cons pe_int pa_nil)) (pg_name (i := 2) scLaw.nd rfl (.inl rfl))
        (pss_cons (ps_set (i := 3) scLaw.nd rfl (.inl rfl) (pe_call CR.G hr (by rfl) CR.g CR.kp CR.b .nil pass0 (pa_cons (pv 1) pa_nil)))
        (pss_cons (ps_set (i := 4) scLaw.nd rfl (.inl rfl) (pe_callB (call_repr (av := av0) hg hr.units) (by rfl) mp (by decide +kernel) (pa_cons (pv 3) pa_nil)))
        (pss_one (ps_if (PW.pt (pw_or (pt_cmpR op_ne (pe_callB (call_repr (av := av0) hg hr.units) (by rfl) mp (by decide +kernel) (pa_cons (pe_call CT.G hr (by rfl) CT.g CT.kp CT.b .nil pass0 (pa_cons (pv 3) pa_nil)) pa_nil))
            (pe_callB (call_repr (av := av0) hg hr.units) (by rfl) mp (by decide +kernel) (pa_cons (pe_call CU.G hr (by rfl) CU.g CU.kp CU.b .nil pass0 (pa_cons (pv 3) pa_nil)) pa_nil)) (nomark _))
          (pw_or1 (pt_cmpR op_ne (pe_callB (call_repr (av := av0) hg hr.units) (by rfl) mp (by decide +kernel) (pa_cons (pv 3) pa_nil)) (pv 4) (nomark _)))))
          (pss_one (ps_ret pe_bl)) pss_nil)))))
      (pss_one (ps_ret pe_bl))), ?_⟩
    refine ⟨.ref sc, rfl, sc, ss, rfl, hS, hlen, fun H1 s a b h01 hs0 ha0 hb0 sm => ?_⟩
    refine ⟨12, rfl, by decide, by decide, for_range (n := (12 : Int).toNat) (fun i σ H2 => Sm H2 s a b (300 * i) ∧ ∃ y2 y3 y4, σ = [some (.ref sc), some (.ref s), y2, y3, y4]) ⟨sm, _, _, _, rfl⟩ (fun i σ H2 hi0 hW => ?_) (fun σ H2 hW => q H2)⟩
    obtain ⟨sm2, y2, y3, y4, rfl⟩ := hW
    have hi : i < 12 := hi0
    refine ⟨.ref s, rfl, s, a, b, _, rfl, sm2, by omega, fun H3 L rs sm3 hL ra r4 bd => ?_⟩
    have rf := rows_fits ra r4 bd
    have df := data_fits ra r4
    refine ⟨.ref L, rfl, .ref L, _, rfl, rows_dv hL ra, rf.sh, rf.ln, rf.dp, ?_⟩
    refine ⟨.ref L, rfl, ?_⟩
    dsimp only [tNil]
    refine told_uni rfl hL ra r4 fun H4 v4 s4 d4 => ?_
    refine ⟨_, _, rfl, d4, df.sh, df.ln, df.dp, ?_⟩
    refine ⟨.ref L, rfl, ?_⟩
    dsimp only [tNil]
    refine told_uni rfl (s4 _ _ hL) (ra.keep s4) r4 fun H5 v5 s5 d5 => ?_
    refine ⟨_, _, rfl, d5, df.sh, df.ln, df.dp, ?_⟩
    refine ⟨rfl, _, rfl, iteNS rfl ?_⟩
    have s35 := s4.trans s5
    refine ⟨.ref L, rfl, .ref L, _, rfl, rows_dv (s35 _ _ hL) (ra.keep s35), rf.sh, rf.ln, rf.dp, ?_⟩
    refine ⟨_, rfl, rfl, _, rfl, iteNS rfl ?_⟩
    exact ⟨(sm3.keep s35).mono (by omega), _, _, _, rfl⟩
end
end Lw
namespace Lw
open PySem PySem.Spec PyProof.Rows L2 Gd
theorem exm_own {K : PySem.W.Frag} {S : Addr} {c : Value} {b : Bool} (h1 : PySem.W.subIn K (.ref S) (.type "BaseException") = some true) (h2 : PySem.W.hasDictIn K S = true) (h3 : PySem.W.typeIn K (.ref S) = some (.type "type")) (h4 : PySem.W.subIn K c (.ref S) = some b) :
    PySem.W.exmOne K c (.ref S) = some b := PySem.W.exm_ref h1 h2 h3 h4
theorem all_mk {l : PySem.W.OpenLaw} {w : World} {K : PySem.W.Frag} {h : Heap} {mg : Str → Option Value} {fa f1 f2 f3 f4 f5 f6 f7 f8 f9 f10 f11 f12 f13 f14 f15 f16 : Addr} (X : K.In h) (G : h.Ns mainGlobals mg) (hfa : mg "law" = some (.ref fa))
    {od1 an1 : Option Addr} {sl1 : Array (Option Value)} {oc1 kV1 dc1 pm1 cd1 ct1 : Value}
    {od2 an2 : Option Addr} {sl2 : Array (Option Value)} {oc2 kV2 dc2 pm2 cd2 ct2 : Value}
    {od3 an3 : Option Addr} {sl3 : Array (Option Value)} {oc3 kV3 dc3 pm3 cd3 ct3 : Value}
    {od4 an4 : Option Addr} {sl4 : Array (Option Value)} {oc4 kV4 dc4 pm4 cd4 ct4 : Value}
    {od5 an5 : Option Addr} {sl5 : Array (Option Value)} {oc5 kV5 dc5 pm5 cd5 ct5 : Value}
    {od6 an6 : Option Addr} {sl6 : Array (Option Value)} {oc6 kV6 dc6 pm6 cd6 ct6 : Value}
    {od7 an7 : Option Addr} {sl7 : Array (Option Value)} {oc7 kV7 dc7 pm7 cd7 ct7 : Value}
    {od8 an8 : Option Addr} {sl8 : Array (Option Value)} {oc8 kV8 dc8 pm8 cd8 ct8 : Value}
    {od9 an9 : Option Addr} {sl9 : Array (Option Value)} {oc9 kV9 dc9 pm9 cd9 ct9 : Value}
    {od10 an10 : Option Addr} {sl10 : Array (Option Value)} {oc10 kV10 dc10 pm10 cd10 ct10 : Value}
    {od11 an11 : Option Addr} {sl11 : Array (Option Value)} {oc11 kV11 dc11 pm11 cd11 ct11 : Value}
    {od12 an12 : Option Addr} {sl12 : Array (Option Value)} {oc12 kV12 dc12 pm12 cd12 ct12 : Value}
    {od13 an13 : Option Addr} {sl13 : Array (Option Value)} {oc13 kV13 dc13 pm13 cd13 ct13 : Value}
    {od14 an14 : Option Addr} {sl14 : Array (Option Value)} {oc14 kV14 dc14 pm14 cd14 ct14 : Value}
    {od15 an15 : Option Addr} {sl15 : Array (Option Value)} {oc15 kV15 dc15 pm15 cd15 ct15 : Value}
    {od16 an16 : Option Addr} {sl16 : Array (Option Value)} {oc16 kV16 dc16 pm16 cd16 ct16 : Value}
    {CE C0 C1 C2 fI : Addr} {nm qn : Str} {N : Addr} {bs : List Value} {sn : List Str} {sub : List Value} {ab : Bool} {col : Option Bool} {dd : Option Addr} {m0 m1 m2 m3 m5 : Option Value} {odI anI : Option Addr} {slI : Array (Option Value)} {ocI dcI pmI cdI ctI : Value} {p1 p2 q1 q2 q3 q4 : Pos}
    (a1 : PySem.W.nsIn K mainGlobals "is_whole" = some (some (.ref f1)))
    (l1 : K.lookup f1 = some ⟨oc1, od1, .func (PySem.W.fnOf "is_whole" "is_whole" (defArgs sWhole) (defBody sWhole) (defScope sWhole) .none kV1 dc1 pm1 an1 cd1 ct1), sl1⟩)
    (c1 : PySem.W.codeIn K cd1 "is_whole" = true)
    (k1 : PySem.W.keepIn K (.ref f1) = true)
    (a2 : PySem.W.nsIn K mainGlobals "is_place" = some (some (.ref f2)))
    (l2 : K.lookup f2 = some ⟨oc2, od2, .func (PySem.W.fnOf "is_place" "is_place" (defArgs sPlace) (defBody sPlace) (defScope sPlace) .none kV2 dc2 pm2 an2 cd2 ct2), sl2⟩)
    (c2 : PySem.W.codeIn K cd2 "is_place" = true)
    (k2 : PySem.W.keepIn K (.ref f2) = true)
    (a3 : PySem.W.nsIn K mainGlobals "is_window" = some (some (.ref f3)))
    (l3 : K.lookup f3 = some ⟨oc3, od3, .func (PySem.W.fnOf "is_window" "is_window" (defArgs sWin) (defBody sWin) (defScope sWin) .none kV3 dc3 pm3 an3 cd3 ct3), sl3⟩)
    (c3 : PySem.W.codeIn K cd3 "is_window" = true)
    (k3 : PySem.W.keepIn K (.ref f3) = true)
    (a4 : PySem.W.nsIn K mainGlobals "least_place" = some (some (.ref f4)))
    (l4 : K.lookup f4 = some ⟨oc4, od4, .func (PySem.W.fnOf "least_place" "least_place" (defArgs sLeast) (defBody sLeast) (defScope sLeast) .none kV4 dc4 pm4 an4 cd4 ct4), sl4⟩)
    (c4 : PySem.W.codeIn K cd4 "least_place" = true)
    (k4 : PySem.W.keepIn K (.ref f4) = true)
    (a5 : PySem.W.nsIn K mainGlobals "check_alike" = some (some (.ref f5)))
    (l5 : K.lookup f5 = some ⟨oc5, od5, .func (PySem.W.fnOf "check_alike" "check_alike" (defArgs sCheck) (defBody sCheck) (defScope sCheck) .none kV5 dc5 pm5 an5 cd5 ct5), sl5⟩)
    (c5 : PySem.W.codeIn K cd5 "check_alike" = true)
    (k5 : PySem.W.keepIn K (.ref f5) = true)
    (a6 : PySem.W.nsIn K mainGlobals "claims_of" = some (some (.ref f6)))
    (l6 : K.lookup f6 = some ⟨oc6, od6, .func (PySem.W.fnOf "claims_of" "claims_of" (defArgs sClaims) (defBody sClaims) (defScope sClaims) .none kV6 dc6 pm6 an6 cd6 ct6), sl6⟩)
    (c6 : PySem.W.codeIn K cd6 "claims_of" = true)
    (k6 : PySem.W.keepIn K (.ref f6) = true)
    (a7 : PySem.W.nsIn K mainGlobals "_law_stream" = some (some (.ref f7)))
    (l7 : K.lookup f7 = some ⟨oc7, od7, .func (PySem.W.fnOf "_law_stream" "_law_stream" (defArgs sStream) (defBody sStream) (defScope sStream) .none kV7 dc7 pm7 an7 cd7 ct7), sl7⟩)
    (c7 : PySem.W.codeIn K cd7 "_law_stream" = true)
    (k7 : PySem.W.keepIn K (.ref f7) = true)
    (a8 : PySem.W.nsIn K mainGlobals "_law_draw" = some (some (.ref f8)))
    (l8 : K.lookup f8 = some ⟨oc8, od8, .func (PySem.W.fnOf "_law_draw" "_law_draw" (defArgs sDraw) (defBody sDraw) (defScope sDraw) .none kV8 dc8 pm8 an8 cd8 ct8), sl8⟩)
    (c8 : PySem.W.codeIn K cd8 "_law_draw" = true)
    (k8 : PySem.W.keepIn K (.ref f8) = true)
    (a9 : PySem.W.nsIn K mainGlobals "_law_pick" = some (some (.ref f9)))
    (l9 : K.lookup f9 = some ⟨oc9, od9, .func (PySem.W.fnOf "_law_pick" "_law_pick" (defArgs sPick) (defBody sPick) (defScope sPick) .none kV9 dc9 pm9 an9 cd9 ct9), sl9⟩)
    (c9 : PySem.W.codeIn K cd9 "_law_pick" = true)
    (k9 : PySem.W.keepIn K (.ref f9) = true)
    (a10 : PySem.W.nsIn K mainGlobals "_law_row" = some (some (.ref f10)))
    (l10 : K.lookup f10 = some ⟨oc10, od10, .func (PySem.W.fnOf "_law_row" "_law_row" (defArgs sRow) (defBody sRow) (defScope sRow) .none kV10 dc10 pm10 an10 cd10 ct10), sl10⟩)
    (c10 : PySem.W.codeIn K cd10 "_law_row" = true)
    (k10 : PySem.W.keepIn K (.ref f10) = true)
    (a11 : PySem.W.nsIn K mainGlobals "_law_least" = some (some (.ref f11)))
    (l11 : K.lookup f11 = some ⟨oc11, od11, .func (PySem.W.fnOf "_law_least" "_law_least" (defArgs sLawLeast) (defBody sLawLeast) (defScope sLawLeast) .none kV11 dc11 pm11 an11 cd11 ct11), sl11⟩)
    (c11 : PySem.W.codeIn K cd11 "_law_least" = true)
    (k11 : PySem.W.keepIn K (.ref f11) = true)
    (a12 : PySem.W.nsIn K mainGlobals "_law_some_rows" = some (some (.ref f12)))
    (l12 : K.lookup f12 = some ⟨oc12, od12, .func (PySem.W.fnOf "_law_some_rows" "_law_some_rows" (defArgs sSome) (defBody sSome) (defScope sSome) .none kV12 dc12 pm12 an12 cd12 ct12), sl12⟩)
    (c12 : PySem.W.codeIn K cd12 "_law_some_rows" = true)
    (k12 : PySem.W.keepIn K (.ref f12) = true)
    (a13 : PySem.W.nsIn K mainGlobals "_law_told" = some (some (.ref f13)))
    (l13 : K.lookup f13 = some ⟨oc13, od13, .func (PySem.W.fnOf "_law_told" "_law_told" (defArgs sTold) (defBody sTold) (defScope sTold) .none kV13 dc13 pm13 an13 cd13 ct13), sl13⟩)
    (c13 : PySem.W.codeIn K cd13 "_law_told" = true)
    (k13 : PySem.W.keepIn K (.ref f13) = true)
    (a14 : PySem.W.nsIn K mainGlobals "_law_due" = some (some (.ref f14)))
    (l14 : K.lookup f14 = some ⟨oc14, od14, .func (PySem.W.fnOf "_law_due" "_law_due" (defArgs sDue) (defBody sDue) (defScope sDue) .none kV14 dc14 pm14 an14 cd14 ct14), sl14⟩)
    (c14 : PySem.W.codeIn K cd14 "_law_due" = true)
    (k14 : PySem.W.keepIn K (.ref f14) = true)
    (a15 : PySem.W.nsIn K mainGlobals "check_window" = some (some (.ref f15)))
    (l15 : K.lookup f15 = some ⟨oc15, od15, .func (PySem.W.fnOf "check_window" "check_window" (defArgs sChkW) (defBody sChkW) (defScope sChkW) .none kV15 dc15 pm15 an15 cd15 ct15), sl15⟩)
    (c15 : PySem.W.codeIn K cd15 "check_window" = true)
    (k15 : PySem.W.keepIn K (.ref f15) = true)
    (a16 : PySem.W.nsIn K mainGlobals "law" = some (some (.ref f16)))
    (l16 : K.lookup f16 = some ⟨oc16, od16, .func (PySem.W.fnOf "law" "law" (defArgs sLaw) (defBody sLaw) (defScope sLaw) .none kV16 dc16 pm16 an16 cd16 ct16), sl16⟩)
    (c16 : PySem.W.codeIn K cd16 "law" = true)
    (k16 : PySem.W.keepIn K (.ref f16) = true)
    (z1 : PySem.W.nsIn K mainGlobals "len" = some none)
    (z2 : PySem.W.nsIn K mainGlobals "abs" = some none)
    (z3 : PySem.W.nsIn K mainGlobals "range" = some none)
    (z4 : PySem.W.nsIn K mainGlobals "sorted" = some none)
    (z5 : PySem.W.nsIn K mainGlobals "tuple" = some none)
    (z6 : PySem.W.nsIn K mainGlobals "isinstance" = some none)
    (z7 : PySem.W.nsIn K mainGlobals "int" = some none)
    (z8 : PySem.W.nsIn K mainGlobals "bool" = some none)
    (z9 : PySem.W.nsIn K mainGlobals "repr" = some none)
    (z10 : PySem.W.nsIn K mainGlobals "enumerate" = some none)
    (z11 : PySem.W.nsIn K mainGlobals "all" = some none)
    (z12 : PySem.W.nsIn K mainGlobals "max" = some none)
    (z13 : PySem.W.nsIn K mainGlobals "min" = some none)
    (aE : PySem.W.nsIn K mainGlobals "LeastError" = some (some (.ref CE)))
    (aN : PySem.W.nsIn K mainGlobals "NoRows" = some (some (.ref C0)))
    (aC : PySem.W.nsIn K mainGlobals "NotAlike" = some (some (.ref C1)))
    (aS : PySem.W.nsIn K mainGlobals "NotShape" = some (some (.ref C2)))
    (xL : K.lookup C1 = some (excClassObj nm qn C1 N bs (.ref CE :: PySem.NotAlikeX.exTl) true sn sub ab col dd m0 m1 m2 m3 m5 "ValueError.__new__"))
    (sa : PySem.W.findIn K (.ref C1) "__setattr__" = some (some (.builtin "object.__setattr__")))
    (nb : PySem.W.findIn K (.ref C1) "index" = some none)
    (aI : PySem.W.findIn K (.ref C1) "__init__" = some (some (.ref fI)))
    (tI : PySem.W.typeIn K (.ref fI) = some (.type "function"))
    (lI : K.lookup fI = some ⟨ocI, odI, .func (PySem.W.fnOf "__init__" "NotAlike.__init__" (PySem.NotAlikeX.iA p1 p2) (PySem.NotAlikeX.iB q1 q2 q3 q4) PySem.NotAlikeX.iS .none .none dcI pmI anI cdI ctI), slI⟩)
    (cI : PySem.W.codeIn K cdI "NotAlike.__init__" = true)
    (xN : PySem.W.excIn K C0 [.type "ValueError", .type "Exception", .type "BaseException", .type "object"] "ValueError.__new__" = true)
    (kC0 : PySem.W.keepIn K (.ref C0) = true)
    (eC0 : PySem.W.subIn K (.ref C0) (.type "BaseException") = some true)
    (tC0 : PySem.W.typeIn K (.ref C0) = some (.type "type"))
    (hC0 : PySem.W.hasDictIn K C0 = true)
    (iC0 : (PySem.W.clsIn K C0).isSome = true)
    (sC0 : PySem.W.subIn K (.ref C0) (.ref C0) = some true)
    (ga0 : PySem.W.findIn K (.ref C0) "__getattribute__" = some (some (.builtin "BaseException.__getattribute__")))
    (gg0 : PySem.W.findIn K (.ref C0) "__getattr__" = some none)
    (ca0 : PySem.W.findIn K (.ref C0) "__class__" = some (some (.builtin "object.__class__")))
    (co0 : PySem.W.mroIn K C0 (.type "object") = some true)
    (kC1 : PySem.W.keepIn K (.ref C1) = true)
    (eC1 : PySem.W.subIn K (.ref C1) (.type "BaseException") = some true)
    (tC1 : PySem.W.typeIn K (.ref C1) = some (.type "type"))
    (hC1 : PySem.W.hasDictIn K C1 = true)
    (iC1 : (PySem.W.clsIn K C1).isSome = true)
    (sC1 : PySem.W.subIn K (.ref C1) (.ref C1) = some true)
    (ga1 : PySem.W.findIn K (.ref C1) "__getattribute__" = some (some (.builtin "BaseException.__getattribute__")))
    (gg1 : PySem.W.findIn K (.ref C1) "__getattr__" = some none)
    (ca1 : PySem.W.findIn K (.ref C1) "__class__" = some (some (.builtin "object.__class__")))
    (co1 : PySem.W.mroIn K C1 (.type "object") = some true)
    (cg : PySem.W.specialIn K (.builtin "object.__class__") "__get__" = some (some (.builtin "getset_descriptor.__get__")))
    (ctk : PySem.W.takesIn K (.builtin "object.__class__") = some true)
    (s10 : PySem.W.subIn K (.ref C1) (.ref C0) = some false)
    (k0E : PySem.W.kitOne K (.ref C0) (.ref CE) = some true)
    (k0N : PySem.W.kitAny K (.ref C0) [.ref C1, .ref C2] = some false)
    (k1E : PySem.W.kitOne K (.ref C1) (.ref CE) = some true)
    (k1N : PySem.W.kitOne K (.ref C1) (.ref C2) = some false) :
    ∃ fd : FuncData, (∀ (s : Shared) (v : Value), BindsTo s fd ⟨[v], []⟩ [("_law_script", v)]) ∧ ∀ base : Heap, K.In base → base.Ns mainGlobals mg → FnG l.prog w K mg base CX0 8 fa fd ["_law_script"] (spLaw K) := by
  have e := hfa.symm.trans (PySem.W.mg_of X G a16)
  cases e
  have F1 := fun_mk (st := sWhole) l1 c1 k1
  have b1 := F1.binds (ps := ["value"]) fun _ _ _ _ _ _ us hl => match us, hl with | [_], _ => rfl
  have g1 := PySem.W.mg_of X G a1
  have F2 := fun_mk (st := sPlace) l2 c2 k2
  have b2 := F2.binds (ps := ["many", "value"]) fun _ _ _ _ _ _ us hl => match us, hl with | [_, _], _ => rfl
  have g2 := PySem.W.mg_of X G a2
  have F3 := fun_mk (st := sWin) l3 c3 k3
  have b3 := F3.binds (ps := ["many", "first", "last"]) fun _ _ _ _ _ _ us hl => match us, hl with | [_, _, _], _ => rfl
  have g3 := PySem.W.mg_of X G a3
  have F4 := fun_mk (st := sLeast) l4 c4 k4
  have b4 := F4.binds (ps := ["row", "first", "last"]) fun _ _ _ _ _ _ us hl => match us, hl with | [_, _, _], _ => rfl
  have g4 := PySem.W.mg_of X G a4
  have F5 := fun_mk (st := sCheck) l5 c5 k5
  have b5 := F5.binds (ps := ["rows"]) fun _ _ _ _ _ _ us hl => match us, hl with | [_], _ => rfl
  have g5 := PySem.W.mg_of X G a5
  have F6 := fun_mk (st := sClaims) l6 c6 k6
  have g6 := PySem.W.mg_of X G a6
  have F7 := fun_mk (st := sStream) l7 c7 k7
  have b7 := F7.binds (ps := ["_law_script"]) fun _ _ _ _ _ _ us hl => match us, hl with | [_], _ => rfl
  have g7 := PySem.W.mg_of X G a7
  have F8 := fun_mk (st := sDraw) l8 c8 k8
  have b8 := F8.binds (ps := ["_law_stream_here", "_law_many"]) fun _ _ _ _ _ _ us hl => match us, hl with | [_, _], _ => rfl
  have g8 := PySem.W.mg_of X G a8
  have F9 := fun_mk (st := sPick) l9 c9 k9
  have b9 := F9.binds (ps := ["_law_stream_here", "_law_items"]) fun _ _ _ _ _ _ us hl => match us, hl with | [_, _], _ => rfl
  have g9 := PySem.W.mg_of X G a9
  have F10 := fun_mk (st := sRow) l10 c10 k10
  have b10 := F10.binds (ps := ["_law_stream_here", "_law_most"]) fun _ _ _ _ _ _ us hl => match us, hl with | [_, _], _ => rfl
  have g10 := PySem.W.mg_of X G a10
  have F11 := fun_mk (st := sLawLeast) l11 c11 k11
  have b11 := F11.binds (ps := ["_law_row_here", "_law_first", "_law_last"]) fun _ _ _ _ _ _ us hl => match us, hl with | [_, _, _], _ => rfl
  have g11 := PySem.W.mg_of X G a11
  have F12 := fun_mk (st := sSome) l12 c12 k12
  have b12 := F12.binds (ps := ["_law_stream_here"]) fun _ _ _ _ _ _ us hl => match us, hl with | [_], _ => rfl
  have g12 := PySem.W.mg_of X G a12
  have F13 := fun_mk (st := sTold) l13 c13 k13
  have b13 := F13.binds (ps := ["_law_rows"]) fun _ _ _ _ _ _ us hl => match us, hl with | [_], _ => rfl
  have g13 := PySem.W.mg_of X G a13
  have F14 := fun_mk (st := sDue) l14 c14 k14
  have b14 := F14.binds (ps := ["_law_rows"]) fun _ _ _ _ _ _ us hl => match us, hl with | [_], _ => rfl
  have g14 := PySem.W.mg_of X G a14
  have F15 := fun_mk (st := sChkW) l15 c15 k15
  have b15 := F15.binds (ps := ["many", "first", "last"]) fun _ _ _ _ _ _ us hl => match us, hl with | [_, _, _], _ => rfl
  have g15 := PySem.W.mg_of X G a15
  have F16 := fun_mk (st := sLaw) l16 c16 k16
  have b16 := F16.binds (ps := ["_law_script"]) fun _ _ _ _ _ _ us hl => match us, hl with | [_], _ => rfl
  have g16 := PySem.W.mg_of X G a16
  have n1 := PySem.W.mg_none_of X G z1
  have n2 := PySem.W.mg_none_of X G z2
  have n3 := PySem.W.mg_none_of X G z3
  have n4 := PySem.W.mg_none_of X G z4
  have n5 := PySem.W.mg_none_of X G z5
  have n6 := PySem.W.mg_none_of X G z6
  have n7 := PySem.W.mg_none_of X G z7
  have n8 := PySem.W.mg_none_of X G z8
  have n9 := PySem.W.mg_none_of X G z9
  have n10 := PySem.W.mg_none_of X G z10
  have n11 := PySem.W.mg_none_of X G z11
  have n12 := PySem.W.mg_none_of X G z12
  have n13 := PySem.W.mg_none_of X G z13
  have T : PySem.NotAlikeX.NotAlikeTxt K mg C1 fI :=
    { gC := PySem.W.mg_of X G aC, cls := ⟨nm, qn, N, bs, _, sn, sub, ab, col, dd, m0, m1, m2, m3, m5, xL, by rfl⟩, sa := sa, ga := ga1, gg := gg1, noN := nb, iC := aI, tC := tI, kC := kC1, exC := eC1, tyC := tC1, hdC := hC1, te := exm_own eC1 hC1 tC1 sC1,
      fn := ⟨_, _, _, _, _, _, _, _, _, _, _, _, _, _, lI, cI⟩ }
  have T0 : Own0 K mg "NoRows" C0 := ⟨PySem.W.mg_of X G aN, xN, kC0, eC0, tC0⟩
  have X0 : ExcD K C0 := ⟨iC0, ga0, gg0, eC0, ca0, cg, ctk, co0⟩
  have X1 : ExcD K C1 := ⟨iC1, ga1, gg1, eC1, ca1, cg, ctk, co1⟩
  refine ⟨PySem.W.fnOf "law" "law" (defArgs sLaw) (defBody sLaw) (defScope sLaw) .none kV16 dc16 pm16 an16 cd16 ct16, fun s v => .of_eq rfl, fun base _ _ => ?_⟩
  have D : FnOk l.prog w K mg base CX0 1 f8 _ ["_law_stream_here", "_law_many"] spDraw := ok_draw (k := 0) F8 n1
  have S : FnOk l.prog w K mg base CX0 1 f7 _ ["_law_script"] (spStream K) := ok_stream (k := 0) F7 n1 n2
  have Pk : FnOk l.prog w K mg base CX0 2 f9 _ ["_law_stream_here", "_law_items"] spPick := ok_pick (k := 1) F9 D F8 b8 g8 n1
  have R : FnOk l.prog w K mg base CX0 2 f10 _ ["_law_stream_here", "_law_most"] spRow := ok_row (k := 1) F10 D F8 b8 g8 n3 n4 n5
  have So : FnOk l.prog w K mg base CX0 3 f12 _ ["_law_stream_here"] spSome := ok_some (k := 2) F12 (D.mono (by decide)) k8 b8 g8 R k10 b10 g10 Pk k9 b9 g9 n1 n3 n12 n13
  have Wh : FnOk l.prog w K mg base CX0 1 f1 _ ["value"] spWhole := ok_whole (k := 0) F1 n6 n7 n8
  have Pl : FnOk l.prog w K mg base CX0 2 f2 _ ["many", "value"] spPlace := ok_place (k := 1) F2 Wh k1 b1 g1
  have Wi : FnOk l.prog w K mg base CX0 3 f3 _ ["many", "first", "last"] spWin := ok_win (k := 2) F3 Pl k2 b2 g2
  have Cw : FnOk l.prog w K mg base CX0 4 f15 _ ["many", "first", "last"] spChk := ok_chkw (k := 3) F15 Wi k3 b3 g3
  have Le : FnOk l.prog w K mg base CX0 5 f4 _ ["row", "first", "last"] spLeast := ok_least (k := 4) F4 Cw k15 b15 g15 n1 n3
  have Ck : FnOk l.prog w K mg base (L2.CX l.prog w) 5 f5 _ ["rows"] (spCheck C0 C1) := ok_check (k := 3) F5 T0 T n1 n10
  have Cl : FnR l.prog w K mg base (L2.CX l.prog w) 6 f6 (spClaims C0 C1) := ok_claims (k := 5) F6 Ck k5 b5 g5 (Le.mono (by decide)) k4 b4 g4 n1 n3 n11 n5
  have To : FnOk l.prog w K mg base CX0 7 f13 _ ["_law_rows"] spTold := ok_told (k := 6) F13 Cl k6 g6 T0 T X0 X1 (PySem.W.mg_of X G aS) (PySem.W.mg_of X G aE) n1 n6 (exm_own eC0 hC0 tC0 sC0) (exm_own eC0 hC0 tC0 s10) k0E k0N k1E k1N
  have LL : FnOk l.prog w K mg base CX0 1 f11 _ ["_law_row_here", "_law_first", "_law_last"] spLawLeast := ok_lawLeast (k := 0) F11 n3
  have Du : FnOk l.prog w K mg base CX0 2 f14 _ ["_law_rows"] spTold := ok_due (k := 1) F14 LL k11 b11 g11 n1 n3 n5
  exact ok_law (k := 7) F16 ⟨S.mono (by decide), k7, b7, g7⟩ ⟨So.mono (by decide), k12, b12, g12⟩ ⟨To, k13, b13, g13⟩ ⟨Du.mono (by decide), k14, b14, g14⟩ n3 n9
end Lw
open PySem PySem.W PyProof.Rows
set_option maxHeartbeats 0 in
theorem PySem.Challenge.cw_leastplaces_k04_claims_of_rows_holds : PySem.Challenge.rw_leastplaces_k04_claims_of_rows.Holds := by
  w_on; o_law; k_head; (case hw => w_witness2)
  k_fill
  refine Gd.walk_G (l := PySem.Challenge.rw_leastplaces_k04_claims_of_rows) (n := 63) (k := 8) (x := "_law_script") (sp := Lw.spLaw) rfl (by decide) rfl ⟨rfl, by decide, by decide⟩ (fun w h Y => PySem.W.kIn_of Y) ?F (fun _ _ a ns hl _ hS => ⟨a, ns, rfl, hS, hl, fun _ => rfl⟩)
  case F =>
    intro w mg fa h KX G hmg
    refine' Lw.all_mk KX G hmg ?a1 ?l1 ?c1 ?k1 ?a2 ?l2 ?c2 ?k2 ?a3 ?l3 ?c3 ?k3 ?a4 ?l4 ?c4 ?k4 ?a5 ?l5 ?c5 ?k5 ?a6 ?l6 ?c6 ?k6 ?a7 ?l7 ?c7 ?k7 ?a8 ?l8 ?c8 ?k8 ?a9 ?l9 ?c9 ?k9 ?a10 ?l10 ?c10 ?k10 ?a11 ?l11 ?c11 ?k11 ?a12 ?l12 ?c12 ?k12 ?a13 ?l13 ?c13 ?k13 ?a14 ?l14 ?c14 ?k14 ?a15 ?l15 ?c15 ?k15 ?a16 ?l16 ?c16 ?k16 ?z1 ?z2 ?z3 ?z4 ?z5 ?z6 ?z7 ?z8 ?z9 ?z10 ?z11 ?z12 ?z13 ?aE ?aN ?aC ?aS ?xL ?sa ?nb ?aI ?tI ?lI ?cI ?xN ?kC0 ?eC0 ?tC0 ?hC0 ?iC0 ?sC0 ?ga0 ?gg0 ?ca0 ?co0 ?kC1 ?eC1 ?tC1 ?hC1 ?iC1 ?sC1 ?ga1 ?gg1 ?ca1 ?co1 ?cg ?ctk ?s10 ?k0E ?k0N ?k1E ?k1N
    (case a1 => first | k_is | kit_is | kernel_rfl | rfl); (case l1 => first | k_is | kit_is | kernel_rfl | rfl); (case c1 => first | k_is | kit_is | kernel_rfl | rfl); (case k1 => first | k_is | kit_is | kernel_rfl | rfl); (case a2 => first | k_is | kit_is | kernel_rfl | rfl); (case l2 => first | k_is | kit_is | kernel_rfl | rfl); (case c2 => first | k_is | kit_is | kernel_rfl | rfl); (case k2 => first | k_is | kit_is | kernel_rfl | rfl); (case a3 => first | k_is | kit_is | kernel_rfl | rfl); (case l3 => first | k_is | kit_is | kernel_rfl | rfl); (case c3 => first | k_is | kit_is | kernel_rfl | rfl); (case k3 => first | k_is | kit_is | kernel_rfl | rfl); (case a4 => first | k_is | kit_is | kernel_rfl | rfl); (case l4 => first | k_is | kit_is | kernel_rfl | rfl); (case c4 => first | k_is | kit_is | kernel_rfl | rfl); (case k4 => first | k_is | kit_is | kernel_rfl | rfl); (case a5 => first | k_is | kit_is | kernel_rfl | rfl); (case l5 => first | k_is | kit_is | kernel_rfl | rfl); (case c5 => first | k_is | kit_is | kernel_rfl | rfl); (case k5 => first | k_is | kit_is | kernel_rfl | rfl); (case a6 => first | k_is | kit_is | kernel_rfl | rfl); (case l6 => first | k_is | kit_is | kernel_rfl | rfl); (case c6 => first | k_is | kit_is | kernel_rfl | rfl); (case k6 => first | k_is | kit_is | kernel_rfl | rfl); (case a7 => first | k_is | kit_is | kernel_rfl | rfl); (case l7 => first | k_is | kit_is | kernel_rfl | rfl); (case c7 => first | k_is | kit_is | kernel_rfl | rfl); (case k7 => first | k_is | kit_is | kernel_rfl | rfl); (case a8 => first | k_is | kit_is | kernel_rfl | rfl); (case l8 => first | k_is | kit_is | kernel_rfl | rfl); (case c8 => first | k_is | kit_is | kernel_rfl | rfl); (case k8 => first | k_is | kit_is | kernel_rfl | rfl); (case a9 => first | k_is | kit_is | kernel_rfl | rfl); (case l9 => first | k_is | kit_is | kernel_rfl | rfl); (case c9 => first | k_is | kit_is | kernel_rfl | rfl); (case k9 => first | k_is | kit_is | kernel_rfl | rfl); (case a10 => first | k_is | kit_is | kernel_rfl | rfl); (case l10 => first | k_is | kit_is | kernel_rfl | rfl); (case c10 => first | k_is | kit_is | kernel_rfl | rfl); (case k10 => first | k_is | kit_is | kernel_rfl | rfl); (case a11 => first | k_is | kit_is | kernel_rfl | rfl); (case l11 => first | k_is | kit_is | kernel_rfl | rfl); (case c11 => first | k_is | kit_is | kernel_rfl | rfl); (case k11 => first | k_is | kit_is | kernel_rfl | rfl); (case a12 => first | k_is | kit_is | kernel_rfl | rfl); (case l12 => first | k_is | kit_is | kernel_rfl | rfl); (case c12 => first | k_is | kit_is | kernel_rfl | rfl); (case k12 => first | k_is | kit_is | kernel_rfl | rfl); (case a13 => first | k_is | kit_is | kernel_rfl | rfl); (case l13 => first | k_is | kit_is | kernel_rfl | rfl); (case c13 => first | k_is | kit_is | kernel_rfl | rfl); (case k13 => first | k_is | kit_is | kernel_rfl | rfl); (case a14 => first | k_is | kit_is | kernel_rfl | rfl); (case l14 => first | k_is | kit_is | kernel_rfl | rfl); (case c14 => first | k_is | kit_is | kernel_rfl | rfl); (case k14 => first | k_is | kit_is | kernel_rfl | rfl); (case a15 => first | k_is | kit_is | kernel_rfl | rfl); (case l15 => first | k_is | kit_is | kernel_rfl | rfl); (case c15 => first | k_is | kit_is | kernel_rfl | rfl); (case k15 => first | k_is | kit_is | kernel_rfl | rfl); (case a16 => first | k_is | kit_is | kernel_rfl | rfl); (case l16 => first | k_is | kit_is | kernel_rfl | rfl); (case c16 => first | k_is | kit_is | kernel_rfl | rfl); (case k16 => first | k_is | kit_is | kernel_rfl | rfl); (case z1 => first | k_is | kit_is | kernel_rfl | rfl); (case z2 => first | k_is | kit_is | kernel_rfl | rfl); (case z3 => first | k_is | kit_is | kernel_rfl | rfl); (case z4 => first | k_is | kit_is | kernel_rfl | rfl); (case z5 => first | k_is | kit_is | kernel_rfl | rfl); (case z6 => first | k_is | kit_is | kernel_rfl | rfl); (case z7 => first | k_is | kit_is | kernel_rfl | rfl); (case z8 => first | k_is | kit_is | kernel_rfl | rfl); (case z9 => first | k_is | kit_is | kernel_rfl | rfl); (case z10 => first | k_is | kit_is | kernel_rfl | rfl); (case z11 => first | k_is | kit_is | kernel_rfl | rfl); (case z12 => first | k_is | kit_is | kernel_rfl | rfl); (case z13 => first | k_is | kit_is | kernel_rfl | rfl); (case aE => first | k_is | kit_is | kernel_rfl | rfl); (case aN => first | k_is | kit_is | kernel_rfl | rfl); (case aC => first | k_is | kit_is | kernel_rfl | rfl); (case aS => first | k_is | kit_is | kernel_rfl | rfl); (case xL => first | k_is | kit_is | kernel_rfl | rfl); (case sa => first | k_is | kit_is | kernel_rfl | rfl); (case nb => first | k_is | kit_is | kernel_rfl | rfl); (case aI => first | k_is | kit_is | kernel_rfl | rfl); (case tI => first | k_is | kit_is | kernel_rfl | rfl); (case lI => first | k_is | kit_is | kernel_rfl | rfl); (case cI => first | k_is | kit_is | kernel_rfl | rfl); (case xN => first | k_is | kit_is | kernel_rfl | rfl); (case kC0 => first | k_is | kit_is | kernel_rfl | rfl); (case eC0 => first | k_is | kit_is | kernel_rfl | rfl); (case tC0 => first | k_is | kit_is | kernel_rfl | rfl); (case hC0 => first | k_is | kit_is | kernel_rfl | rfl); (case iC0 => first | k_is | kit_is | kernel_rfl | rfl); (case sC0 => first | k_is | kit_is | kernel_rfl | rfl); (case ga0 => first | k_is | kit_is | kernel_rfl | rfl); (case gg0 => first | k_is | kit_is | kernel_rfl | rfl); (case ca0 => first | k_is | kit_is | kernel_rfl | rfl); (case co0 => first | k_is | kit_is | kernel_rfl | rfl); (case kC1 => first | k_is | kit_is | kernel_rfl | rfl); (case eC1 => first | k_is | kit_is | kernel_rfl | rfl); (case tC1 => first | k_is | kit_is | kernel_rfl | rfl); (case hC1 => first | k_is | kit_is | kernel_rfl | rfl); (case iC1 => first | k_is | kit_is | kernel_rfl | rfl); (case sC1 => first | k_is | kit_is | kernel_rfl | rfl); (case ga1 => first | k_is | kit_is | kernel_rfl | rfl); (case gg1 => first | k_is | kit_is | kernel_rfl | rfl); (case ca1 => first | k_is | kit_is | kernel_rfl | rfl); (case co1 => first | k_is | kit_is | kernel_rfl | rfl); (case cg => first | k_is | kit_is | kernel_rfl | rfl); (case ctk => first | k_is | kit_is | kernel_rfl | rfl); (case s10 => first | k_is | kit_is | kernel_rfl | rfl); (case k0E => first | k_is | kit_is | kernel_rfl | rfl); (case k0N => first | k_is | kit_is | kernel_rfl | rfl); (case k1E => first | k_is | kit_is | kernel_rfl | rfl); (case k1N => first | k_is | kit_is | kernel_rfl | rfl)
