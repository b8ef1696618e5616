import PyProof.Rows.All
import Wide.All
import OpenK.AllK
import Wide.FinOn
import PyProof.EqAt
import PyProof.EqKinds
import PyProof.TupleCall
import PyProof.ReprRoads
import HandS.ForMost
import HandS.IsInst
import HandS.Style
import HandS.TupAny
import HandS.TupMul
import HandS.SortInts
import KE.KRevSl
import KE.GoesMore
import KE.GoesEnum
import KE.KExcInit
import HandS.ForExc
import HandS.ExcIs
import HandS.CallLocal
import KE.KExcIs
import HandS.ExcValue
import KE.KEqSeq
import PySem.Challenge.RW_leastplaces_k01_bounds_and_errors
set_option Elab.async false
set_option linter.all false
set_option maxRecDepth 100000
set_option maxHeartbeats 4000000
/-! Defs that may ask repr: what runs around them holds no repr under way. -/
namespace Gd
open PySem PySem.Spec PyProof.Rows L2

theorem guards_deeper {A : Around} (env : Env) (h : A.guards = some []) : (A.deeper env).guards = some [] := by
  first | exact h | (simpa [Around.deeper] using h)

/-- as FnOk, asked only where no repr is under way -/
structure FnG (P : Program) (w : World) (K : PySem.W.Frag) (mg : Str → Option Value) (base : Heap) (CX : CXT) (k : Nat) (f : Addr) (fd : FuncData) (ps : List Str) (sp : Sp) : Prop where
  len : ∀ vs H Q E, sp vs H Q E → vs.length = ps.length
  run : ∀ (A : Around) (fr : List Env) (s : Shared) (H : Hp) (ar : Args) (us : List Value) (vs : List V) (Q : VK) (E : XK), Room k A → A.guards = some [] → Env0 P w K mg base A fr s H → BindsTo s fd ar (ps.zip us) →
    Vals vs us → sp vs H Q E → codeAny (model P w) A (.call (.ref f) ar) (CR CX fr P w H s Q E) s

section
variable {P : Program} {w : World} {K : PySem.W.Frag} {mg : Str → Option Value} {base : Heap}
theorem fnG_of {x qual : Str} {st : Stmt} {f : Addr} {fd : FuncData} {N ps : List Str} {k : Nat} {sp : Sp} (F : Fun K x qual st f fd) (S : FnScope N ps (defScope st)) (len : ∀ vs H Q E, sp vs H Q E → vs.length = ps.length)
    (body : ∀ (cdv : Value) (A : Around) (fr : List Env) (s : Shared) (H : Hp) (vs : List V) (Q : VK) (E : XK), Room k (A.deeper (envOfC qual (defScope st) s.heap.objs.size f cdv)) →
      (A.deeper (envOfC qual (defScope st) s.heap.objs.size f cdv)).guards = some [] → sp vs H Q E →
      ∃ t, PSs (cxOf CX0 P w K mg base N qual (defScope st) f cdv A fr s H E).nox (defBody st) t ∧ t { nx := fun _ H' => Q .non H', rt := Q } (start N vs) H) : FnG P w K mg base CX0 (k + 1) f fd ps sp := by
  obtain ⟨oc, od, kV, doc, pm, an, cdv, ct, osl, rfl, lk, hcd⟩ := F.ex
  refine ⟨len, ?_⟩
  intro A fr s H ar us vs Q E room gd env bd rel want
  have inK : K.In s.heap := env.mod.kin.keeps (fun b o z => (env.bs b o z).1)
  have nolim : s.heap.NoLimit := env.mod.nolimit.keeps (fun b o z => (env.bs b o z).1)
  refine codeAny_call_function room.depth (inK _ _ lk) rfl S.co S.gen rfl
    (PySem.W.codeRec_of inK hcd) (bd _ _ _ _ ?_)
  refine wpAny_newFunctionEnv_cells S.kind ?kinds ?rest
  case kinds =>
    rintro ⟨n, v⟩ hm
    have par := S.par n (List.of_mem_zip hm).1
    rcases par with z | z
    · exact Or.inl z
    · exact Or.inr (And.intro z (PySem.W.cellsFrom_some _ _ _ (.inl z)))
  case rest =>
    intro env1 e1 s1 inCall
    subst e1
    refine ⟨nolim.keeps inCall.toInCall.keep, codeAny_func ?_⟩
    obtain ⟨t, tree, reading⟩ := body cdv A fr s H vs Q E (room.deeper _) (guards_deeper _ gd) want
    have I0 : Inv (cxOf CX0 P w K mg base N qual (defScope st) f cdv A fr s H E) [] (start N vs) H s1 := inv_start S room.hd env (len _ _ _ _ want) rel inCall
    have ran := tree.nox.run [] s1 (start N vs) H _ I0 reading
    refine wpAny_mono ran ?good (fun _ _ z => z)
    case good =>
      intro flow s2 end2
      cases flow with
      | brk => obtain ⟨_, _, _, no⟩ := end2; exact no.elim
      | cont => obtain ⟨_, _, _, no⟩ := end2; exact no.elim
      | next =>
        obtain ⟨σ2, H2, I2, q2⟩ := end2
        exact (⟨.non, H2, I2.os, I2.bare, I2.base, I2.hok, rfl, q2⟩ : CE fr P w H s Q Value.none s2)
      | ret u =>
        obtain ⟨v, σ2, H2, I2, rv, q2⟩ := end2
        exact (⟨v, H2, I2.os, I2.bare, I2.base, I2.hok, rv, q2⟩ : CE fr P w H s Q u s2)

/-- the law's own call -/
theorem law_runG {mb : Str → Option Value} {CX : CXT} {k : Nat} {fa a : Addr} {fd : FuncData} {x : Str} {sp : Sp} {s₁ : Shared} {vs : List Value} {ns : List Int}
    (inK : K.In s₁.heap) (glob : s₁.heap.Ns mainGlobals mg) (blt : s₁.heap.Ns builtinsNs mb) (plain : ∀ y : Str, y ≠ "__name__" → mb y = bootBuiltins y) (nolim : s₁.heap.NoLimit) (nogen : s₁.gens = #[])
    (obj : s₁.heap.get? a = some { cls := .type "list", data := .seq vs.toArray }) (isInts : IntsAre vs ns) (short : ns.length ≤ sizeLine) (room : Room k callerA)
    (F : ∀ b : Heap, K.In b → b.Ns mainGlobals mg → FnG P w K mg b CX k fa fd [x] sp) (bd : ∀ (s : Shared) (u : Value), BindsTo s fd ⟨[u], []⟩ [(x, u)])
    (want : ∀ H : Hp, Only H → SqL K H a (ns.map V.int) → sp [.ref a] H (fun v _ => v = .bl true) fun _ _ _ => False)
    (noX : ∀ H e s', CX [] H s₁ (fun _ _ _ => False) e s' → False) :
    codeAny (model P w) callerA (.call (.ref fa) ⟨[.ref a], []⟩) (fun r s' => r = .ok (.ret (.bool true)) ∧ OldK s₁.heap s'.heap ∧ s'.os = s₁.os ∧ AllBare s'.gens) s₁ := by
  have rel : Vals (ns.map V.int) vs := vals_ints isInts
  have sizes : vs.length = ns.length := isInts.length
  -- the abstract heap: the script alone, unless the module's own part holds it
  obtain ⟨H, only, script, held, alone, apart⟩ : ∃ H : Hp, Only H ∧ SqL K H a (ns.map V.int) ∧ HOk P w H s₁.heap ∧ (∀ b, H b ≠ none → b = a) ∧ (∀ o, K.lookup a = some o → H a = none) := by
    cases own : K.lookup a with
    | some o =>
      have same := (inK a o own).symm.trans obj
      cases same
      refine ⟨fun _ => none, fun _ => Or.inl rfl, Or.inr ?_, ?_, fun b z => (z rfl).elim, fun _ _ => rfl⟩
      · exact ⟨_, vs.toArray, _, own, rfl, rfl, rfl, by rw [List.size_toArray, sizes]; exact short, by simpa using rel⟩
      · intro b u z
        cases z
    | none =>
      refine ⟨fun b => if b = a then some (.frz ⟨.type "list", none, .seq vs.toArray 0, #[]⟩ (.lst (ns.map V.int))) else none, ?_, ?_, ?_, ?_, fun o z => by cases z⟩
      · intro b
        by_cases e : b = a
        · exact Or.inr ⟨_, _, if_pos e⟩
        · exact Or.inl (if_neg e)
      · exact Or.inl (Or.inr ⟨_, if_pos rfl⟩)
      · intro b u z
        by_cases e : b = a
        · subst e
          dsimp only at z
          rw [if_pos rfl] at z
          cases z
          exact ⟨obj, by rw [List.length_map]; exact short, vs, _, rel, obj⟩
        · dsimp only at z
          rw [if_neg e] at z
          cases z
      · intro b z
        by_cases e : b = a
        · exact e
        · exact (z (if_neg e)).elim
  have free : ∀ {b : Addr} {o : Obj} {es : Array DictEntry} {n : Nat}, s₁.heap.get? b = some o → o.data = .dict es n → H b = none := by
    intro b o es n z d
    cases q : H b with
    | none => rfl
    | some u =>
      have e := alone b (by rw [q]; exact fun y => nomatch y)
      subst e
      rw [obj] at z
      cases z
      cases (show Data.seq vs.toArray 0 = Data.dict es n from d)
  have keepNs : ∀ {b : Addr} {m : Str → Option Value}, s₁.heap.Ns b m → (hidT s₁.heap H).Ns b m := by
    rintro b m ⟨o, es, n, z, d, r⟩
    exact ⟨o, es, n, hidT_get z (free z d), d, r⟩
  have keepK : K.In (hidT s₁.heap H) := by
    intro b o z
    refine hidT_get (inK b o z) ?_
    cases q : H b with
    | none => rfl
    | some u =>
      have e := alone b (by rw [q]; exact fun y => nomatch y)
      subst e
      rw [apart o z] at q
      cases q
  have mod : Mod K mg (hidT s₁.heap H) := by
    obtain ⟨mc, c1, c2⟩ := nolim
    exact ⟨keepK, keepNs glob, ⟨mb, keepNs blt, plain⟩, ⟨mc, keepNs c1, c2⟩⟩
  have env : Env0 P w K mg (hidT s₁.heap H) callerA [] s₁ H := by
    refine ⟨rfl, mod, fun b o z => of_hidT z, ?_, trivial, ?_, held, .of_eq nogen⟩
    · rw [hidT_size]
      exact Nat.le_refl _
    · intro b z
      exact nomatch (show b ∈ ([] : List Addr) from z)
  have ran := (F _ keepK (keepNs glob)).run callerA [] s₁ H ⟨[.ref a], []⟩ [.ref a] [.ref a] _ _ room rfl env (bd s₁ (.ref a)) (.cons rfl .nil) (want H only script)
  refine codeAny_mono ran ?_
  intro r s2 end2
  cases r with
  | error e => exact (noX H e s2 end2).elim
  | ok fl =>
    cases fl with
    | next => exact False.elim end2
    | brk => exact False.elim end2
    | cont => exact False.elim end2
    | ret u =>
      obtain ⟨v, H2, os2, bare2, un2, ok2, rv, yes⟩ := end2
      have yes' : v = .bl true := yes
      subst yes'
      have eu : u = Value.bool true := rv
      subst eu
      refine ⟨rfl, OldK.of_keep ?_, os2, bare2⟩
      intro b o z
      rcases only b with no | ⟨ob, xs, fz⟩
      · refine un2.keep b o z no ?_ ?_
        · intro y
          exact nomatch (show b ∈ ([] : List Addr) from y)
        · intro y
          exact nomatch y
      · have was := (held b _ fz).1
        have now := (ok2 b _ (un2.frzs b ob _ fz)).1
        rw [z] at was
        cases was
        exact now

theorem walk_G {l : PySem.W.OpenLaw} {n k : Nat} {q : Program} {loose : List Str} {XP : (Str → Option Value) → Heap → Prop} {YP : World → Heap → Prop} {d : DefRec} {K : Params → PySem.W.Frag} {sp : PySem.W.Frag → Sp} {x : Str}
    (hn : l.most = some n) (fits : n ≤ sizeLine) (nodf : d.params.defaults = []) (room : Room k callerA) (hY : ∀ (w : World) (h : Heap), YP w h → (K w.params).In h)
    (F : ∀ (w : World) (mg : Str → Option Value) (fa : Addr) (h : Heap), (K w.params).In h → h.Ns mainGlobals mg → mg d.name = some (.ref fa) → ∃ fd : FuncData, (∀ (s : Shared) (u : Value), BindsTo s fd ⟨[u], []⟩ [(x, u)]) ∧
      ∀ b : Heap, (K w.params).In b → b.Ns mainGlobals mg → FnG l.prog w (K w.params) mg b CX0 k fa fd [x] (sp (K w.params)))
    (want : ∀ (K : PySem.W.Frag) (H : Hp) (a : Addr) (ns : List Int), ns.length ≤ n → Only H → SqL K H a (ns.map V.int) → sp K [.ref a] H (fun v _ => v = .bl true) fun _ _ _ => False) :
    PySem.W.WalkO q loose XP YP l.row.toRowW d [] (fun f vs => PySem.call f vs) := by
  apply Att.attach_call hn nodf
  intro w s₀ s₁ mg mb fa o pm cd doc a vs ns G Y ho hd hcd hmg obj isInts hlen nogen
  obtain ⟨fd, bd, hF⟩ := F w mg fa _ (hY w _ Y) G.T.g hmg
  exact law_runG (hY w _ Y) G.T.g G.T.b G.T.builtins G.T.nolimit nogen obj isInts (Nat.le_trans hlen fits) room hF bd (fun H h1 h2 => want _ H a ns hlen h1 h2) (fun _ _ _ z => z)
end
end Gd
/-! Data at any depth, dicts of plain values among them, and what repr says of it. -/
namespace Gd
open PySem PySem.Spec PyProof.Rows L2

/-- a plain value as data -/
def vD : V → PyData
  | .non => .none
  | .bl b => .bool b
  | .int i => .int i
  | .str x => .str x
  | _ => .none
def kD : Key → PyData
  | .inl i => .int i
  | .inr x => .str x
def plainV : V → Bool
  | .non => true
  | .bl _ => true
  | .int _ => true
  | .str _ => true
  | _ => false

/-- the value v is the data d, and none of its objects is one of av -/
inductive Dv (av : Addr → Prop) (H : Hp) : V → PyData → Prop
  | non : Dv av H .non .none
  | bl (b : Bool) : Dv av H (.bl b) (.bool b)
  | int (i : Int) : Dv av H (.int i) (.int i)
  | str (x : Str) : Dv av H (.str x) (.str x)
  | lst {a : Addr} {xs : List V} {ds : List PyData} : H a = some (.lst xs) → ¬ av a → xs.length = ds.length → (∀ (i : Nat) (x : V) (d : PyData), xs[i]? = some x → ds[i]? = some d → Dv av H x d) → Dv av H (.ref a) (.list ds)
  | tup {a : Addr} {xs : List V} {ds : List PyData} : H a = some (.tup xs) → ¬ av a → xs.length = ds.length → (∀ (i : Nat) (x : V) (d : PyData), xs[i]? = some x → ds[i]? = some d → Dv av H x d) → Dv av H (.ref a) (.tuple ds)
  | dct {a : Addr} {kvs : List (Key × V)} : H a = some (.dK kvs) → ¬ av a → (∀ p ∈ kvs, plainV p.2 = true) → Dv av H (.ref a) (.dict (kvs.map fun p => (kD p.1, vD p.2)))

/-- all but the objects of av stays -/
def Kp (av : Addr → Prop) (H H' : Hp) : Prop := ∀ b o, H b = some o → ¬ av b → H' b = some o
theorem Kp.refl {av : Addr → Prop} (H : Hp) : Kp av H H := fun _ _ h _ => h
theorem Kp.trans {av : Addr → Prop} {H H1 H2 : Hp} (a : Kp av H H1) (b : Kp av H1 H2) : Kp av H H2 := fun c o h n => b c o (a c o h n) n
theorem Kp.of_same {av : Addr → Prop} {H H1 : Hp} (a : Same H H1) : Kp av H H1 := fun c o h _ => a c o h
theorem Dv.keep {av : Addr → Prop} {H H' : Hp} (k : Kp av H H') {v : V} {d : PyData} (h : Dv av H v d) : Dv av H' v d := by
  induction h with
  | non => exact .non
  | bl b => exact .bl b
  | int i => exact .int i
  | str x => exact .str x
  | lst e n l _ ih => exact .lst (k _ _ e n) n l ih
  | tup e n l _ ih => exact .tup (k _ _ e n) n l ih
  | dct e n p => exact .dct (k _ _ e n) n p

section
variable {prog : Program} {w : World} {h : Heap}
def Rk (prog : Program) (w : World) (h : Heap) (u : Value) (d : PyData) : Prop := (∃ as, Reads h u d as) ∧ ∃ bs, ReadAtMost h d.depth bs ∧ ReprK prog w bs h d.depth u d.shown
def RkAll (prog : Program) (w : World) (h : Heap) (us : List Value) (ds : List PyData) : Prop :=
  (∃ as, ReadsAll h us ds as) ∧ ∃ bs, ReadAtMost h (PyData.depthAll ds) bs ∧ ReprAllK prog w bs h (PyData.depthAll ds) us (PyData.shownAll ds)
theorem rk_nil : RkAll prog w h [] [] := ⟨⟨_, .nil⟩, [], (fun _ z => nomatch z), by rw [PyData.shownAll]; exact .nil⟩
theorem rk_cons {u : Value} {d : PyData} {us : List Value} {ds : List PyData} (a : Rk prog w h u d) (b : RkAll prog w h us ds) : RkAll prog w h (u :: us) (d :: ds) := by
  obtain ⟨⟨as, r⟩, b1, m1, k1⟩ := a
  obtain ⟨⟨cs, rs⟩, b2, m2, k2⟩ := b
  refine ⟨⟨_, .cons r rs⟩, b1 ++ b2, ?_, ?_⟩
  · rw [PyData.depthAll]
    exact (m1.mono (Nat.le_max_left _ _)).append (m2.mono (Nat.le_max_right _ _))
  · rw [PyData.depthAll, PyData.shownAll]
    refine .cons ((k1.more ?_).level_le (Nat.le_max_left _ _)) (k2.more_le ?_ (Nat.le_max_right _ _))
    · exact fun c z => List.mem_append_left _ z
    · exact fun c z => List.mem_append_right _ z
theorem rk_list {a : Addr} {o : Obj} {vs : List Value} {n : Nat} {ds : List PyData} (e : h.get? a = some o) (c : o.cls = .type "list") (dt : o.data = .seq vs.toArray n) (all : RkAll prog w h vs ds) : Rk prog w h (.ref a) (.list ds) := by
  obtain ⟨⟨as, rs⟩, bs, m, k⟩ := all
  have r : Reads h (.ref a) (.list ds) (a :: as) := .list e c dt rs
  have deep : PyData.depth (.list ds) = PyData.depthAll ds + 1 := by rw [PyData.depth]
  refine ⟨⟨_, r⟩, a :: bs, ReadAtMost.cons r (by omega) m, ?_⟩
  rw [deep, PyData.shown]
  cases vs with
  | nil =>
    cases rs
    rw [PyData.shownAll, listText_nil]
    exact ReprK.listEmpty e c dt
  | cons x l => exact ReprK.list e c dt (not_mem_of_deeper r (by omega) m) (by simpa using k.length_eq) (fun i y z => k.item i y (by simpa using z))
theorem rk_tuple {a : Addr} {o : Obj} {vs : List Value} {n : Nat} {ds : List PyData} (e : h.get? a = some o) (c : o.cls = .type "tuple") (dt : o.data = .seq vs.toArray n) (all : RkAll prog w h vs ds) : Rk prog w h (.ref a) (.tuple ds) := by
  obtain ⟨⟨as, rs⟩, bs, m, k⟩ := all
  have r : Reads h (.ref a) (.tuple ds) as := .tuple e c dt rs
  have deep : PyData.depth (.tuple ds) = PyData.depthAll ds + 1 := by rw [PyData.depth]
  refine ⟨⟨_, r⟩, a :: bs, ReadAtMost.cons r (by omega) m, ?_⟩
  rw [deep, PyData.shown]
  exact ReprK.tuple e c dt (not_mem_of_deeper r (by omega) m) k
theorem rk_plain {v : V} {u : Value} (p : plainV v = true) (r : RelV v u) : Reads h u (vD v) [] := by
  cases v with
  | non => cases r; exact .none
  | bl b => cases r; exact .bool b
  | int i => obtain ⟨t, rfl⟩ := r; exact .int i t
  | str x => obtain ⟨t, rfl⟩ := r; exact .str x t
  | byt b => cases p
  | flt b => cases p
  | ref a => cases p
  | ty n => cases p
theorem rk_dict {a : Addr} {kvs : List (Key × V)} (ok : ObjOk prog w H h a (.dK kvs)) (pl : ∀ p ∈ kvs, plainV p.2 = true) (sh : (PyData.dict (kvs.map fun p => (kD p.1, vD p.2))).showable = true)
    (sz : (PyData.dict (kvs.map fun p => (kD p.1, vD p.2))).shown.length ≤ sizeLine) : Rk prog w h (.ref a) (.dict (kvs.map fun p => (kD p.1, vD p.2))) := by
  obtain ⟨_, hm, vs, rel, o, es, ep, e, ex, dt, _, prs, _⟩ := ok
  have ks : ∀ (kvs : List (Key × V)) (vs : List (Key × Value)) (l : List DictEntry), (∀ p ∈ kvs, plainV p.2 = true) → KV kvs vs → Pairs (mixKind prog w) l vs →
      ReadsAll h (l.map (·.key)) ((kvs.map fun p => (kD p.1, vD p.2)).map (·.1)) [] ∧ ReadsAll h (l.map (·.val)) ((kvs.map fun p => (kD p.1, vD p.2)).map (·.2)) [] := by
    intro kvs
    induction kvs with
    | nil =>
      intro vs l _ q p
      cases q
      cases p
      exact ⟨.nil, .nil⟩
    | cons kv kvs ih =>
      intro vs l pl q p
      cases q with
      | cons q1 q2 =>
        cases p with
        | cons p1 p2 p3 =>
          obtain ⟨i1, i2⟩ := ih _ _ (fun p z => pl p (List.mem_cons_of_mem _ z)) q2 p3
          obtain ⟨q1a, q1b⟩ := q1
          refine ⟨?_, ?_⟩
          · refine ReadsAll.cons (as := []) (bs := []) ?_ i1
            rw [← q1a] at p1
            obtain ⟨k1, v1⟩ := kv
            rcases keyIs_shape p1 with ⟨i, t, ek, ev⟩ | ⟨x, t, ek, ev⟩
            · dsimp only at ek
              subst ek
              dsimp only
              rw [ev]
              exact .int i t
            · dsimp only at ek
              subst ek
              dsimp only
              rw [ev]
              exact .str x t
          · refine ReadsAll.cons (as := []) (bs := []) ?_ i2
            dsimp only
            rw [p2]
            exact rk_plain (pl kv List.mem_cons_self) q1b
  obtain ⟨r1, r2⟩ := ks kvs vs es.toList pl rel prs
  have r : Reads h (.ref a) (.dict (kvs.map fun p => (kD p.1, vD p.2))) (a :: [] ++ []) := .dict e ex.1 dt r1 r2
  refine ⟨⟨_, r⟩, ReprK.of_reads r sh (fun _ z => ?_) sz⟩
  rcases List.mem_cons.mp z with q | q
  · rw [← q] at hm
    exact Bool.noConfusion ((beq_self_eq_true sysModules).symm.trans hm)
  · exact nomatch q
end

theorem shownAll_mem : ∀ {ds : List PyData} {d : PyData}, d ∈ ds → d.shown ∈ PyData.shownAll ds
  | [], _, h => nomatch h
  | x :: r, d, h => by
    rw [PyData.shownAll]
    rcases List.mem_cons.mp h with rfl | h
    · exact List.mem_cons_self
    · exact List.mem_cons_of_mem _ (shownAll_mem h)
theorem showableAll_mem : ∀ {ds : List PyData} {d : PyData}, PyData.showableAll ds = true → d ∈ ds → d.showable = true
  | [], _, _, h => nomatch h
  | x :: r, d, s, h => by
    rw [PyData.showableAll, Bool.and_eq_true] at s
    rcases List.mem_cons.mp h with rfl | h
    · exact s.1
    · exact showableAll_mem s.2 h

section
variable {X : Cx} {pins : List (Addr × Obj)} {σ : L2.St} {H : Hp} {s : Shared} {av : Addr → Prop}
theorem rk_all {xs : List V} {ds : List PyData} (ih : ∀ (i : Nat) (x : V) (d : PyData), xs[i]? = some x → ds[i]? = some d → ∀ u, RelV x u → Rk X.prog X.w s.heap u d) (l : xs.length = ds.length) {us : List Value} (r : Vals xs us) : RkAll X.prog X.w s.heap us ds := by
  induction r generalizing ds with
  | nil =>
    cases ds with
    | nil => exact rk_nil
    | cons d ds => cases l
  | cons r1 r2 ih2 =>
    cases ds with
    | nil => cases l
    | cons d ds => exact rk_cons (ih 0 _ _ rfl rfl _ r1) (ih2 (fun i x e h1 h2 => ih (i + 1) x e h1 h2) (Nat.succ.inj l))
theorem Dv.rk (I : Inv X pins σ H s) {v : V} {d : PyData} (h : Dv av H v d) : d.showable = true → d.shown.length ≤ sizeLine → ∀ u, RelV v u → Rk X.prog X.w s.heap u d := by
  have flat : ∀ {u : Value} {d : PyData}, Reads s.heap u d [] → d.hasDict = false → d.showable = true → d.shown.length ≤ sizeLine → Rk X.prog X.w s.heap u d := fun r n sh sz => ⟨⟨_, r⟩, ReprK.of_reads r sh (fun z => by rw [n] at z; cases z) sz⟩
  induction h with
  | non => intro sh sz u r; cases r; exact flat .none rfl sh sz
  | bl b => intro sh sz u r; cases r; exact flat (.bool b) rfl sh sz
  | int i => intro sh sz u r; obtain ⟨t, rfl⟩ := r; exact flat (.int i t) rfl sh sz
  | str x => intro sh sz u r; obtain ⟨t, rfl⟩ := r; exact flat (.str x t) rfl sh sz
  | lst e n l _ ih =>
    intro sh sz u r
    cases r
    obtain ⟨_, its, m, rv, ho⟩ := I.hok _ _ e
    rw [PyData.shown] at sz
    rw [PyData.showable] at sh
    refine rk_list ho rfl rfl (rk_all (fun i x d h1 h2 u q => ?_) l rv)
    exact ih i x d h1 h2 (showableAll_mem sh (List.mem_of_getElem? h2)) (Nat.le_trans (listText_mem_le (shownAll_mem (List.mem_of_getElem? h2))) sz) u q
  | tup e n l _ ih =>
    intro sh sz u r
    cases r
    obtain ⟨_, its, rv, o, ho, hc, m, hd⟩ := I.hok _ _ e
    rw [PyData.shown] at sz
    rw [PyData.showable] at sh
    refine rk_tuple ho hc hd (rk_all (fun i x d h1 h2 u q => ?_) l rv)
    exact ih i x d h1 h2 (showableAll_mem sh (List.mem_of_getElem? h2)) (Nat.le_trans (tupleText_mem_le (shownAll_mem (List.mem_of_getElem? h2))) sz) u q
  | dct e n p =>
    intro sh sz u r
    cases r
    exact rk_dict (I.hok _ _ e) p sh sz

/-- repr(x), x any data: its text -/
def rRepr (av : Addr → Prop) : List V → Hp → VK → Prop := fun xs H Q => ∃ x d, xs = [x] ∧ Dv av H x d ∧ d.showable = true ∧ d.shown.length ≤ sizeLine ∧ d.depth ≤ 60 ∧ Q (.str d.shown) H
theorem call_repr (hg : X.A.guards = some []) (hu : X.A.units + 64 < cLine) : CallR X (.builtin "repr") (rRepr av) := by
  intro pins s σ H xs us Q I r want
  obtain ⟨x, d, rfl, dv, sh, sz, dp, q⟩ := want
  obtain ⟨u, rfl, ru⟩ := vals1 r
  have ends : ∀ h' t tk, (∀ b o, s.heap.get? b = some o → h'.get? b = some o) → EP X pins σ Q (.str d.shown t) { s with heap := h', toks := tk } := fun h' t tk k => ⟨.str d.shown, H, I.kept k, ⟨t, rfl⟩, q⟩
  have all := dv.rk I sh sz u ru
  have g1 : X.A.in1.guards = some [] := hg
  have u1 : X.A.in1.units + 63 < cLine := by show X.A.units + 1 + 63 < cLine; omega
  cases dv with
  | non => cases ru; exact PySem.P.repr_of_none (ends s.heap _ _ fun _ _ e => e)
  | bl b =>
    cases ru
    refine PySem.P.repr_of_bool ?_
    have z := ends s.heap s.toks (s.toks + 1) fun _ _ e => e
    rw [PyData.shown] at z
    exact z
  | int i =>
    obtain ⟨t, rfl⟩ := ru
    refine PySem.P.repr_of_int (by simpa [PyData.showable] using sh) ?_
    have z := ends s.heap s.toks (s.toks + 1) fun _ _ e => e
    rw [PyData.shown] at z
    exact z
  | str y =>
    obtain ⟨t, rfl⟩ := ru
    refine PySem.P.repr_of_str ?_ (by simpa only [PyData.shown] using sz)
    have z := ends s.heap s.toks (s.toks + 1) fun _ _ e => e
    rw [PyData.shown] at z
    exact z
  | @lst a ys ds e n l f =>
    cases ru
    obtain ⟨_, its, m, rv, ho⟩ := I.hok _ _ e
    have sh' := sh
    have sz' := sz
    rw [PyData.showable] at sh'
    rw [PyData.shown] at sz'
    have parts : RkAll X.prog X.w s.heap its ds := rk_all (fun i x d h1 h2 u q => (f i x d h1 h2).rk I (showableAll_mem sh' (List.mem_of_getElem? h2)) (Nat.le_trans (listText_mem_le (shownAll_mem (List.mem_of_getElem? h2))) sz') u q) l rv
    obtain ⟨⟨as, rs⟩, bs, mb, k⟩ := parts
    have rd : Reads s.heap (.ref a) (.list ds) (a :: as) := .list ho rfl rfl rs
    have deep : PyData.depth (.list ds) = PyData.depthAll ds + 1 := by rw [PyData.depth]
    refine call_repr_slot (by omega) ⟨_, ho, rfl⟩ PySem.F.slot_list_repr.toG ?_
    rw [PyData.shown] at ends
    cases its with
    | nil =>
      cases rs
      rw [PyData.shownAll, listText_nil] at ends
      exact call_list_repr_empty ⟨_, ho, rfl⟩ ho rfl ⟨_, _, rfl, ends s.heap _ _ fun _ _ e => e⟩
    | cons y its =>
      exact call_list_reprK ho rfl rfl (not_mem_of_deeper rd (by omega) mb) (by simpa using k.length_eq) (fun i y z => k.item i y (by simpa using z)) g1 (fun b _ => Clear.nil b) (by omega) (fun _ _ e => e) (fun h' t tk kk => ⟨_, _, rfl, ends h' t tk kk⟩) sz'
  | @tup a ys ds e n l f =>
    cases ru
    obtain ⟨_, its, rv, o, ho, hc, m, hd⟩ := I.hok _ _ e
    have sh' := sh
    have sz' := sz
    rw [PyData.showable] at sh'
    rw [PyData.shown] at sz'
    have parts : RkAll X.prog X.w s.heap its ds := rk_all (fun i x d h1 h2 u q => (f i x d h1 h2).rk I (showableAll_mem sh' (List.mem_of_getElem? h2)) (Nat.le_trans (tupleText_mem_le (shownAll_mem (List.mem_of_getElem? h2))) sz') u q) l rv
    obtain ⟨⟨as, rs⟩, bs, mb, k⟩ := parts
    have rd : Reads s.heap (.ref a) (.tuple ds) as := .tuple ho hc hd rs
    have deep : PyData.depth (.tuple ds) = PyData.depthAll ds + 1 := by rw [PyData.depth]
    refine call_repr_slot (by omega) ⟨_, ho, hc⟩ PySem.F.slot_tuple_repr ?_
    rw [PyData.shown] at ends
    exact call_tuple_reprK ho hc hd (not_mem_of_deeper rd (by omega) mb) k g1 (fun b _ => Clear.nil b) (by omega) (fun _ _ e => e) (fun h' t tk kk => ⟨_, _, rfl, ends h' t tk kk⟩) sz'
  | @dct a kvs e n p =>
    cases ru
    obtain ⟨⟨as, rd⟩, _⟩ := all
    obtain ⟨_, hm, vs, rel, o, es, ep, e1, ex, dt, _, prs, _⟩ := (show ObjOk X.prog X.w H s.heap a (.dK kvs) from I.hok _ _ e)
    have deep : (PyData.dict (kvs.map fun p => (kD p.1, vD p.2))).depth ≤ 60 := dp
    have nos : sysModules ∉ as := by
      cases rd with
      | dict h1 h2 h3 h4 h5 =>
        have flatAll : ∀ {us : List Value} {ds : List PyData} {cs : List Addr}, ReadsAll s.heap us ds cs → (∀ d ∈ ds, d.depth = 0) → cs = [] := by
          intro us
          induction us with
          | nil => intro ds cs q _; cases q; rfl
          | cons u us ih =>
            intro ds cs q z
            cases q with
            | cons q1 q2 =>
              have z1 := z _ List.mem_cons_self
              have z2 := ih q2 fun d m => z d (List.mem_cons_of_mem _ m)
              subst z2
              cases q1 with
              | list => rw [PyData.depth] at z1; omega
              | tuple => rw [PyData.depth] at z1; omega
              | dict => rw [PyData.depth] at z1; omega
              | _ => rfl
        have k1 := flatAll h4 (fun d m => by
          obtain ⟨q, hq, rfl⟩ := List.mem_map.mp m
          obtain ⟨r, hr, rfl⟩ := List.mem_map.mp hq
          obtain ⟨kk, vv⟩ := r
          cases kk <;> simp only [kD, PyData.depth])
        have k2 := flatAll h5 (fun d m => by
          obtain ⟨q, hq, rfl⟩ := List.mem_map.mp m
          obtain ⟨r, hr, rfl⟩ := List.mem_map.mp hq
          obtain ⟨kk, vv⟩ := r
          cases vv <;> simp only [vD, PyData.depth])
        subst k1 k2
        intro z
        rcases List.mem_cons.mp z with q | q
        · rw [← q] at hm
          exact Bool.noConfusion ((beq_self_eq_true sysModules).symm.trans hm)
        · exact nomatch q
    exact repr_of_reads' rd sh (fun _ => nos) hg (by omega) (fun _ _ e => e) (fun h' t tk kk => ends h' t tk kk) sz
end
end Gd
/-! xs[::k] of a list, k one of 1 and -1 and not written; t[::-1] of a tuple; t == () -/
namespace Gd
open PySem PySem.Spec PyProof.Rows L2
theorem pick_all (its : Array Value) : slicePick its none none (some 1) = its := by
  have hb : sliceBounds none none (some 1) its.size = (0, (its.size : Int), 1) := by simp [sliceBounds]
  have hr : sliceRange 0 (its.size : Int) 1 = List.range its.size := by
    unfold sliceRange
    by_cases h : (0 : Int) < its.size
    · have e : ((its.size : Int) - 0 + 1 - 1) / 1 = its.size := by rw [Int.ediv_one]; omega
      simp only [show (1 : Int) > 0 by decide, if_true, h, e, Int.toNat_natCast]
      refine (List.map_congr_left (g := id) fun k _ => ?_).trans (List.map_id _)
      show (0 + 1 * (k : Int)).toNat = k
      omega
    · have e : its.size = 0 := by omega
      rw [e]
      simp
  unfold slicePick
  rw [hb]
  dsimp only
  rw [hr, PySem.W.krv_all]
section
variable {X : Cx}
/-- what xs[::k] asks -/
def tStep (K : PySem.W.Frag) (te ts : TE) : TE := fun σ H Q => te σ H fun x H1 => ts σ H1 fun y H2 => ∃ a xs k, x = .ref a ∧ SqL K H2 a xs ∧ y = .int k ∧ (k = 1 ∨ k = -1) ∧ ∀ zs p, (zs = xs ∨ zs = xs.reverse) → H2 p = none → Q (.ref p) (upd H2 p (.lst zs))
theorem pe_step {e st : Expr} {te ts : TE} {p3 pos : Pos} (he : PE X e te) (hst : PE X st ts)
    (hops : ∀ o i : Value, subscripted (.Slice none none (some st) p3) false o i = operate [o, i] (getItem o i) := by intro _ _; rfl) :
    PE X (.Subscript e (.Slice none none (some st) p3) pos) (tStep X.K te ts) := by
  refine ⟨fun pins s σ H Q I want => ?_⟩
  refine Subscript_ (thn (he.run pins s σ H _ I want) ?_)
  rintro v s1 ⟨x, H1, I1, r1, want1⟩
  refine wpAny_Slice (thn (po_none.run pins s1 σ H1 (fun o G => o = none ∧ G = H1) I1 ⟨rfl, rfl⟩) ?_)
  rintro vl s2 ⟨l, G2, I2, pl, rfl, rfl⟩
  refine thn (po_none.run pins s2 σ G2 (fun o G => o = none ∧ G = G2) I2 ⟨rfl, rfl⟩) ?_
  rintro vu s3 ⟨u, G3, I3, pu, rfl, rfl⟩
  rw [evalPart_some]
  refine thn (hst.run pins s3 σ G3 _ I3 want1) ?_
  rintro vs s4 ⟨y, H4, I4, ry, a, xs, k, rfl, hx, rfl, hk, want2⟩
  cases r1
  have ps : IsPart vs (some k) := by
    obtain ⟨t, rfl⟩ := ry
    exact IsPart.int _ _
  have I5 : Inv X pins σ H4 { s4 with heap := s4.heap.push { cls := .type "slice", data := .fields #[vl, vu, vs] } } := I4.kept (t' := s4.toks) fun b ob z => Heap.get?_push_of_some _ z
  obtain ⟨its, r, ht, hz⟩ := I5.list hx
  have hlen := r.length
  refine tail_any (ops := [.ref a, .ref s4.heap.objs.size]) ht.isList.typeIs (PySem.slot_list_getitem.lookup) ?_ (hops _ _)
  refine wpAny_getItem_list_slice ht.isList (Heap.IsSliceOf.new _ vl vu vs) pl pu ps (by rcases hk with rfl | rfl <;> decide) ?_ (by rw [List.size_toArray]; omega)
  rcases hk with rfl | rfl
  · rw [pick_all]
    refine ⟨.ref _, _, I5.laid (t' := s4.toks) (o := .lst xs) (fun b ob z => Heap.get?_push_of_some _ z) (Nat.le_refl _) ?_, rfl, want2 _ _ (.inl rfl) (I5.hok.fresh (Nat.le_refl _))⟩
    exact ⟨hz, _, 0, r, Heap.get?_push_size _ rfl⟩
  · rw [PySem.W.krv_pick]
    refine ⟨.ref _, _, I5.laid (t' := s4.toks) (o := .lst xs.reverse) (fun b ob z => Heap.get?_push_of_some _ z) (Nat.le_refl _) ?_, rfl, want2 _ _ (.inr rfl) (I5.hok.fresh (Nat.le_refl _))⟩
    exact ⟨by rw [List.length_reverse]; exact hz, _, 0, r.reverse, Heap.get?_push_size _ rfl⟩
end
end Gd
/-! enumerate(t), t a tuple; t == (), t any tuple -/
namespace Gd
open PySem PySem.Spec PyProof.Rows L2
theorem meets_enum1 {v : Value} {o : Obj} {Hh : Heap → Prop} (B : Begins v o Hh) : Meets (Builtin.«enumerate.__new__» ⟨[.type "enumerate", v], []⟩) (fun _ R s => Hh s.heap ∧
    R (.ok (.ret (.ref (s.heap.push o).objs.size))) { s with heap := (s.heap.push o).push { cls := .type "enumerate", data := .fields #[.none, .bool false, .ref s.heap.objs.size, rawInt 0, .none, .none] } }) :=
  .of_wp fun prog w A R s z => by
    obtain ⟨hp, g, d, tk, os⟩ := s
    obtain ⟨z1, z2⟩ := z
    have hsub := sub_enumerate
    have go : ∀ {A' : Around} {E : Value → Shared → Prop} {Q : Value → Shared → Prop}, Q (.ref hp.objs.size) ⟨hp.push o, g, d, tk, os⟩ → wpAny (model prog w) A' (pyIter v) Q E ⟨hp, g, d, tk, os⟩ := by
      intro A' E Q q
      exact B.iter prog w A' E _ Q z1 q
    wp_walk using go
    refine wpAny_stack_any fun st => wpAny_pure ?_
    split
    · rename_i c _ _ _ _ _
      cases (c == Value.type "enumerate") <;> (wp_walk using go; exact ⟨_, rfl, z2⟩)
    · wp_walk using go
      exact ⟨_, rfl, z2⟩
section
variable {prog : Program} {w : World} {A : Around} {E : Value → Shared → Prop} {s : Shared}
theorem enum1_begins {v : Value} {o : Obj} {Hh : Heap → Prop} {Q : Value → Shared → Prop} (B : Begins v o Hh) (z : Hh s.heap)
    (q : ∀ h', IsEnum h' (s.heap.objs.size + 1) s.heap.objs.size 0 .none → h'.get? s.heap.objs.size = some o → (∀ b o, s.heap.get? b = some o → h'.get? b = some o) → Q (.ref (s.heap.objs.size + 1)) { s with heap := h' }) :
    wpAny (model prog w) A (call (.type "enumerate") [v]) Q E s := by
  refine callType_new F.called_enumerate (by decide) (F.typeCall_enumerate_1 _) (F.newCall_enumerate_1 _) (fun obj => F.args_object_init_2 obj _) F.entry_enumerate_new (meets_enum1 B) ⟨z, ?_⟩
  have size1 : (s.heap.push o).objs.size = s.heap.objs.size + 1 := Heap.size_push ..
  show _ ∧ _
  rw [size1]
  have isE : IsEnum ((s.heap.push o).push { cls := .type "enumerate", data := .fields #[.none, .bool false, .ref s.heap.objs.size, rawInt 0, .none, .none] }) (s.heap.objs.size + 1) s.heap.objs.size 0 .none := by
    have y := Heap.get?_push_size (s.heap.push o) (o := { cls := .type "enumerate", data := .fields #[.none, .bool false, .ref s.heap.objs.size, rawInt 0, .none, .none] }) rfl
    rw [size1] at y
    exact y
  exact ⟨⟨_, isE, rfl⟩, q _ isE (Heap.get?_push_of_some _ (Heap.get?_push_size _ B.free)) fun b o x => Heap.get?_push_of_some _ (Heap.get?_push_of_some _ x)⟩
end
/-- the tuple at a, each item in a new pair with its place -/
def ItT (K : PySem.W.Frag) (a : Addr) : It :=
  ⟨fun i H => ∃ (xs : List V) (x : V), SqT K H a xs ∧ xs[i]? = some x, fun i H v H' => ∃ T x, v = .ref T ∧ H T = none ∧ H' = upd H T (.tup [.int (i : Nat), x]) ∧ ∀ xs, SqT K H a xs → xs[i]? = some x, fun i H => ∃ xs : List V, SqT K H a xs ∧ xs.length = i⟩
theorem turn_T {P : Program} {w : World} {K : PySem.W.Frag} {elts : List Expr} {kk : Nat} {tpos : Pos} (t e it : Addr) (hti : t ≠ it) (hei : e ≠ it) (het : e ≠ t) :
    Turn P w K (.Tuple elts kk tpos) (ItT K t) [e, it] e (fun i h => (∃ old, IsEnum h e it ((i : Nat) : Int) old) ∧ h.IsTupleIter it t i) where
  mem := by simp
  obj := by
    rintro i h ⟨⟨old, he⟩, ⟨o, ho, hc, hd⟩⟩ b hb
    rcases List.mem_cons.mp hb with z | z
    · subst z
      exact ⟨_, he, fun v q => nomatch q⟩
    · have z2 := List.mem_singleton.mp z
      subst z2
      exact ⟨o, ho, fun v q => by rw [hd] at q; cases q⟩
  keep := by
    rintro i h h' ⟨⟨old, he⟩, hi⟩ k
    exact ⟨⟨old, k e (by simp) _ he⟩, hi.at fun o q => k it (by simp) o q⟩
  item := by
    rintro X rfl rfl rfl hc i pins s σ H E I hf ⟨⟨old, he⟩, hit⟩ ⟨xs, x, hq, hx⟩
    obtain ⟨its, rv, tup, hz⟩ := I.tuple hq
    obtain ⟨u, hu, ru⟩ := rv.get hx
    have hel : e < s.heap.objs.size := Heap.lt_size he
    have hil : it < s.heap.objs.size := by
      obtain ⟨_, z, _⟩ := id hit
      exact Heap.lt_size z
    have hlt : i < its.toArray.size := by
      rw [List.size_toArray]
      exact (List.getElem?_eq_some_iff.mp hu).1
    have isT : s.heap.IsTuple t its.toArray := tup
    refine wpAny_pyNext_enum_itemD (Draws.tuple (prog := X.prog) (w := X.w) (A := X.A.in1) (show X.A.in1.handled = none from I.ok.hd hc) it t hti its.toArray) he ⟨hit, isT⟩ hlt hei (by simp [hei, het]) ?_
    rintro y h' tk hy out ⟨hit', _⟩ hT hsz hk
    have ey : y = u := by
      have z : its[i]? = some y := by simpa using hy
      rw [hu] at z
      exact (Option.some.inj z).symm
    subst ey
    refine ⟨_, rfl, wpAny_letOwnedTupleGo_enum (s := { s with heap := h', toks := tk + 1 }) out ?_⟩
    intro h2 he2 sb
    have hT2 : h2.get? s.heap.objs.size = some { cls := .type "tuple", data := .seq #[.int i tk, y] } := (sb.2 _ (Nat.ne_of_gt hel)).trans hT
    have new : ObjOk X.prog X.w (upd H s.heap.objs.size (.tup [.int (i : Nat), x])) h2 s.heap.objs.size (.tup [.int (i : Nat), x]) :=
      ⟨by show 2 ≤ sizeLine; decide, [.int i tk, y], .cons ⟨_, rfl⟩ (.cons ru .nil), ⟨_, hT2, rfl, _, rfl⟩⟩
    have old2 : ∀ b ob, b ∉ [e, it] → s.heap.get? b = some ob → h2.get? b = some ob := by
      intro b ob nb z
      have n1 : b ≠ e := fun q => nb (by simp [q])
      have n2 : b ≠ it := fun q => nb (by simp [q])
      exact (sb.2 b n1).trans (hk b ob n1 n2 z)
    have I1 : Inv X pins σ (upd H s.heap.objs.size (.tup [.int (i : Nat), x])) { s with heap := h2, toks := tk + 1 } := I.turnedNew (ch := [e, it]) old2 hf (Nat.le_refl _) new
    refine ⟨.ref s.heap.objs.size, _, I1, rfl, ⟨_, x, rfl, I.hok.fresh (Nat.le_refl _), rfl, fun ys hy => ?_⟩, ⟨⟨y, ?_⟩, hit'.at fun o z => (sb.2 it (Ne.symm hei)).trans z⟩, fun b hb => ?_⟩
    · rw [I.tuple_inj hy hq]
      exact hx
    · have e1 : ((i + 1 : Nat) : Int) = (i : Int) + 1 := by omega
      rw [e1]
      exact he2
    · have lt : b < s.heap.objs.size := by
        rcases List.mem_cons.mp hb with z | z
        · rw [z]
          exact hel
        · rw [List.mem_singleton.mp z]
          exact hil
      rw [upd_ne (Nat.ne_of_lt lt)]
      exact (hf b hb).1
  done := by
    rintro X rfl rfl rfl hc i pins s σ H E I hf ⟨⟨old, he⟩, hit⟩ ⟨xs, hq, hx⟩
    obtain ⟨its, rv, tup, hz⟩ := I.tuple hq
    obtain ⟨f0, f1, f2, f3, f4, f5⟩ := hf it (by simp)
    have isT : s.heap.IsTuple t its.toArray := tup
    have hsz : its.toArray.size = i := by
      rw [List.size_toArray, ← rv.length]
      exact hx
    refine wpAny_pyNext_enum_endD (Draws.tuple (prog := X.prog) (w := X.w) (A := X.A.in1) (show X.A.in1.handled = none from I.ok.hd hc) it t hti its.toArray) he ⟨by rw [hsz]; exact hit, isT⟩ ?_
    intro h' eb
    exact ⟨rfl, I.turned (t' := s.toks) (fun b o hb z => eb b o hb z) f0 f1 f3 f4 f5⟩
  self := by
    rintro A i s Q E ⟨⟨old, he⟩, _⟩ q
    exact wpAny_pyIter_enum he q
def iEnumT (K : PySem.W.Frag) (ta : TA) : TI := fun σ H R => ta σ H fun vs H1 => ∃ a xs, vs = [.ref a] ∧ SqT K H1 a xs ∧ R (ItT K a) H1
theorem pi_enumT {X : Cx} {e : Expr} {ta : TA} {p pos tpos : Pos} {elts : List Expr} {kk : Nat} (hg : Gl X "enumerate") (hm : X.mg "enumerate" = none) (ha : PA X [e] ta) (hs : starEach [e] X.env = [(false, eval e X.env)] := by rfl) :
    PI X (.Tuple elts kk tpos) (.Call (.Name "enumerate" p) [e] [] pos) (iEnumT X.K ta) := by
  refine ⟨fun pins s σ H R I want => ?_⟩
  refine Call_ (ld_blt I hg hm boot_enumerate (PyProof.Rows.callWith_type1 (thn (ha.run pos pins s σ H _ I want) ?_) hs rfl))
  rintro us s1 ⟨vs, H1, I1, r1, t, xs, rfl, hq, want1⟩
  obtain ⟨u, rfl, ru⟩ := vals1 r1
  cases ru
  obtain ⟨its, rv, tup, hz⟩ := I1.tuple hq
  have isT : s1.heap.IsTuple t its.toArray := tup
  have tl : t < s1.heap.objs.size := by
    obtain ⟨o, z, _⟩ := id isT
    exact Heap.lt_size z
  refine enum1_begins (begins_tuple t its.toArray) isT ?_
  intro h' he hit hk
  refine wpAny_pyIter_enum he ?_
  have I2 : Inv X pins σ H1 { s1 with heap := h' } := I1.kept (t' := s1.toks) hk
  refine ⟨s1.heap.objs.size + 1, [s1.heap.objs.size + 1, s1.heap.objs.size], _, _, H1, rfl, I2, turn_T t (s1.heap.objs.size + 1) s1.heap.objs.size (Nat.ne_of_lt tl) (Nat.succ_ne_self _) (Nat.ne_of_gt (Nat.lt_succ_of_lt tl)), ⟨⟨.none, he⟩, ⟨_, hit, rfl, rfl⟩⟩, fun b hb => ?_, want1⟩
  have le : s1.heap.objs.size ≤ b := by
    rcases List.mem_cons.mp hb with z | z
    · rw [z]
      exact Nat.le_add_right _ _
    · rw [List.mem_singleton.mp z]
      exact Nat.le_refl _
  exact I1.fpOk le (I1.hok.fresh le)
section
variable {X : Cx}
/-- t == (), t any tuple -/
theorem op_eqNil (hu : X.A.units < cLine) : OpR X (compareOp .Eq) (fun x y H Q => ∃ a b xs, x = .ref a ∧ y = .ref b ∧ SqT X.K H a xs ∧ SqT X.K H b [] ∧ Q (.bl xs.isEmpty) H) := by
  intro pins s σ H x y v u Q I rx ry want
  obtain ⟨a, b, xs, rfl, rfl, ha, hb, q⟩ := want
  cases rx
  cases ry
  obtain ⟨its, rv, t1, _⟩ := I.tuple ha
  obtain ⟨its2, rv2, t2, _⟩ := I.tuple hb
  cases rv2
  have i1 : s.heap.IsTuple a its.toArray := t1
  have i2 : s.heap.IsTuple b ([] : List Value).toArray := t2
  have rc := PySem.SeqAt.RcAt.tuples (A := X.A) (e := fun _ => true) i1 i2 hu (fun j _ h2 => absurd h2 (by simp))
  refine rc X.prog X.w X.xe _ ⟨.bl xs.isEmpty, H, I, ?_, q⟩
  cases rv with
  | nil => rfl
  | cons _ _ => rfl
end
end Gd
/-! t[::-1] of a tuple -/
namespace Gd
open PySem PySem.Spec PyProof.Rows L2
section
variable {prog : Program} {w : World} {A : Around} {E : Value → Shared → Prop} {s : Shared}
theorem applied_back {sl : Addr} {vl vu : Value} {tk : Tok} {n : Nat} {Q : Int × Int × Nat → Shared → Prop} (hs : s.heap.IsSliceOf sl vl vu (.int (-1) tk)) (pl : IsPart vl none) (pu : IsPart vu none)
    (q : Q ((n : Int) - 1, -1, n) s) : wpAny (model prog w) A (Builtin.Slice.sliceApplied (.ref sl) (pure (n : Int))) Q E s := by
  obtain ⟨o, ho, hc, hd⟩ := id hs
  unfold Builtin.Slice.sliceApplied Builtin.Slice.sliceFields
  refine wpAny_bind (wpAny_bind (wpAny_field ho hd (x := vl) rfl ?_))
  refine wpAny_bind (wpAny_field ho hd (x := vu) rfl ?_)
  refine wpAny_bind (wpAny_field ho hd (x := .int (-1) tk) rfl (wpAny_pure ?_))
  refine wpAny_bind (HT.slicePart_ (IsPart.int (-1) tk) ?_)
  show wpAny _ _ (if ((-1 : Int) == 0) = true then _ else _) _ _ s
  rw [if_neg (by decide)]
  refine wpAny_bind (HT.slicePart_ pl ?_)
  refine wpAny_bind (HT.slicePart_ pu ?_)
  refine wpAny_bind (wpAny_pure ?_)
  have adj : Builtin.Slice.sliceAdjust none none (-1) (n : Int) = ((n : Int) - 1, -1) := by
    unfold Builtin.Slice.sliceAdjust
    simp
  have plc : Builtin.Slice.slicePlaces ((n : Int) - 1) (-1) (-1) = n := by
    unfold Builtin.Slice.slicePlaces
    have z1 : ¬ ((-1 : Int) > 0) := by decide
    simp only [z1, if_false, show (- -1 : Int) = 1 by decide, Int.ediv_one]
    split <;> omega
  show wpAny _ _ (match Builtin.Slice.sliceAdjust none none (-1) (n : Int) with | (lo, hi) => pure (lo, (-1 : Int), Builtin.Slice.slicePlaces lo hi (-1))) _ _ s
  rw [adj]
  show wpAny _ _ (pure ((n : Int) - 1, (-1 : Int), Builtin.Slice.slicePlaces ((n : Int) - 1) (-1) (-1))) _ _ s
  rw [plc]
  exact wpAny_pure q
theorem pick_back (xs : Array Value) : ((List.range xs.size).filterMap fun (m : Nat) => xs[(((xs.size : Nat) : Int) - 1 + (m : Int) * (-1)).toNat]?).toArray = xs.toList.reverse.toArray := by
  congr 1
  have e : (List.range xs.size).filterMap (fun (m : Nat) => xs[(((xs.size : Nat) : Int) - 1 + (m : Int) * (-1)).toNat]?) = ((List.range xs.size).map (fun k => xs.size - 1 - k)).filterMap (xs[·]?) := by
    rw [List.filterMap_map]
    congr 1
    funext m
    show xs[_]? = xs[_]?
    congr 1
    dsimp only
    omega
  rw [e, PySem.W.krv_range, List.filterMap_reverse, PySem.W.krv_all]
theorem getItem_back {t sl : Addr} {items : Array Value} {vl vu : Value} {tk : Tok} {Q : Value → Shared → Prop} (ht : IsTup s.heap t items) (hs : s.heap.IsSliceOf sl vl vu (.int (-1) tk)) (pl : IsPart vl none) (pu : IsPart vu none)
    (q : Q (.ref s.heap.objs.size) { s with heap := s.heap.push { cls := .type "tuple", data := .seq items.toList.reverse.toArray } }) (sz : items.size ≤ sizeLine) : wpAny (model prog w) A (getItem (.ref t) (.ref sl)) Q E s := by
  have fits : sizeOk (.seq items.toList.reverse.toArray) := by
    show items.toList.reverse.toArray.size ≤ sizeLine
    rw [List.size_toArray, List.length_reverse, Array.length_toList]
    exact sz
  obtain ⟨o, ho, hc, hd⟩ := id hs
  have isS : s.TypeIs (.ref sl) "slice" := ⟨o, ho, hc⟩
  unfold getItem
  try with_reducible refine wpAny_holding ?_
  first | refine wpAny_bind (wpAny_pure ?_) | skip
  refine wpAny_bind (wpAny_sequenceKey ht.typeIs (by decide) ?_)
  refine wpAny_bind (wpAny_callSpecial?_slot (name := Str.ofString "__getitem__") ht.typeIs PyProof.Rows.slot_tuple_getitem
    (wpAny_call_entry PyProof.Rows.slot_tuple_getitem ht.typeIs entry_tuple_getitem ?_ (args_tuple_getitem _ _)))
  show wpAny _ _ (Builtin.Tuple.tupleItemsOf (.ref t) >>= _) _ _ s
  refine wpAny_bind (tupleItemsOf_ ht ?_)
  refine wpAny_bind (wpAny_typeOf isS ?_)
  rw [if_pos (by decide)]
  refine wpAny_bind (applied_back hs pl pu ?_)
  have no : ¬ ((((items.size : Int) - 1 == 0) && (-1 : Int) == 1 && (items.size == items.size)) = true) := by
    intro z
    rw [Bool.and_eq_true, Bool.and_eq_true] at z
    exact absurd z.1.2 (by decide)
  show wpAny _ _ (if (((items.size : Int) - 1 == 0) && (-1 : Int) == 1 && (items.size == items.size)) = true then _ else _) _ _ s
  rw [if_neg no, pick_back]
  first
    | exact wpAny_bind (m := Builtin.Tuple.tupleExact _) (wpAny_newObj_type (wpAny_pure ⟨_, rfl, wpAny_pure q⟩) fits)
    | exact wpAny_bind (m := Builtin.Tuple.tupleExact _) (wpAny_newObj_type (wpAny_bind (wpAny_pure (wpAny_pure ⟨_, rfl, wpAny_pure q⟩))) fits)
    | exact wpAny_bind (wpAny_bind (m := Builtin.Tuple.tupleExact _) (wpAny_newObj_type (wpAny_pure (wpAny_pure ⟨_, rfl, wpAny_pure q⟩)) fits))
    | exact wpAny_bind (wpAny_bind (m := Builtin.Tuple.tupleExact _) (wpAny_newObj_type (wpAny_pure ⟨_, rfl, wpAny_pure q⟩) fits))
end
section
variable {X : Cx}
def tBack (K : PySem.W.Frag) (te : TE) : TE := fun σ H Q => te σ H fun x H1 => ∃ a xs, x = .ref a ∧ SqT K H1 a xs ∧ ∀ p, H1 p = none → Q (.ref p) (upd H1 p (.tup xs.reverse))
theorem pe_back {e : Expr} {te : TE} {k : Nat} {p1 p2 p3 pos : Pos} (he : PE X e te) : PE X (.Subscript e (.Slice none none (some (.UnaryOp .USub (.Constant (.int 1) k p1) p2)) p3) pos) (tBack X.K te) := by
  refine ⟨fun pins s σ H Q I want => ?_⟩
  refine Subscript_ (thn (he.run pins s σ H _ I want) ?_)
  rintro v s1 ⟨x, H1, I1, r1, a, xs, rfl, hx, want1⟩
  cases r1
  refine wpAny_Slice (thn (po_none.run pins s1 σ H1 (fun o G => o = none ∧ G = H1) I1 ⟨rfl, rfl⟩) ?_)
  rintro vl s2 ⟨l, G2, I2, pl, rfl, rfl⟩
  refine thn (po_none.run pins s2 σ G2 (fun o G => o = none ∧ G = G2) I2 ⟨rfl, rfl⟩) ?_
  rintro vu s3 ⟨u, G3, I3, pu, rfl, rfl⟩
  have hst : PE X (.UnaryOp .USub (.Constant (.int 1) k p1) p2) (tUn (rU fun i => .int (-i)) (tC (.int 1))) := pe_un un_neg pe_int
  rw [evalPart_some]
  refine thn (hst.run pins s3 σ G3 (fun y G => y = .int (-1) ∧ G = G3) I3 ⟨1, rfl, rfl, rfl⟩) ?_
  rintro vs s4 ⟨y, H4, I4, ry, rfl, rfl⟩
  obtain ⟨tk, rfl⟩ := ry
  have I5 : Inv X pins σ H4 { s4 with heap := s4.heap.push { cls := .type "slice", data := .fields #[vl, vu, .int (-1) tk] } } := I4.kept (t' := s4.toks) fun b ob z => Heap.get?_push_of_some _ z
  obtain ⟨its, r, ht, hz⟩ := I5.tuple hx
  have hlen := r.length
  refine tail_any (ops := [.ref a, .ref s4.heap.objs.size]) ht.typeIs (PyProof.Rows.slot_tuple_getitem.lookup) ?_ (by with_unfolding_all rfl)
  refine getItem_back ht (Heap.IsSliceOf.new _ vl vu _) pl pu ?_ (by rw [List.size_toArray]; omega)
  refine ⟨.ref _, _, I5.laid (t' := s4.toks) (o := .tup xs.reverse) (fun b ob z => Heap.get?_push_of_some _ z) (Nat.le_refl _) ?_, rfl, want1 _ (I5.hok.fresh (Nat.le_refl _))⟩
  exact ⟨by rw [List.length_reverse]; exact hz, _, r.reverse, ⟨_, Heap.get?_push_size _ rfl, rfl, _, rfl⟩⟩
end
end Gd
/-! the first store into a new exception of an own class, over any base -/
namespace Gd
open PySem PySem.Spec PyProof.Rows PySem.HandSPX PySem.W
open PySem.Builtin PySem.Builtin.ObjectAttr
section
variable {prog : Program} {w : World} {A : Around} {R : Result → Shared → Prop} {hp : Heap} {g : Array GenState} {d : Drawn} {t : Nat} {os : OsState}
theorem osaX {K : W.Frag} {name : Str} {tk : Tok} {v : Value} {x C : Addr} {fv : Array Value} {cd : ClassData} {tl : List Value} (pass : ∀ self : Value, refuseLoop self "__setattr__" tl = pure ()) (obj : tl.contains (.type "object") = true)
    (X : K.In hp) (hx : hp.get? x = some { cls := .ref C, data := .fields fv }) (hcd : W.clsIn K C = some cd) (hm : excTail tl cd.mro = true) (hh : cd.hasDict = true) (ha : W.findIn K (.ref C) name = some none)
    (q : ∀ h' tk' dx, (∀ b o, b ≠ x → hp.get? b = some o → h'.get? b = some o) → hp.objs.size ≤ dx → dx ≠ x → h'.get? x = some { cls := .ref C, dict := some dx, data := .fields fv } →
      h'.Ns1 dx (fun y => if y = name then some v else none) → R (.ok (.ret .none)) ⟨h', g, d, tk', os⟩) :
    codeAny (model prog w) A (.call (.builtin "object.__setattr__") ⟨[.ref x, .str name tk, v], []⟩) R ⟨hp, g, d, t, os⟩ := by
  have inst : W.InstAt hp x { cls := .ref C, data := .fields fv } C none := ⟨hx, rfl, rfl, trivial⟩
  have SF := PySem.F.store_object
  have isObj : cd.mro.contains (.type "object") = true := (excTail_contains "object" _ hm).trans obj
  have full : cd.mro.isEmpty = false := by
    cases z : cd.mro with
    | nil => rw [z] at isObj; cases isObj
    | cons _ _ => rfl
  have off : x ≠ hp.objs.size := Nat.ne_of_lt (Heap.lt_size hx)
  have sub : W.Looks (model prog w) hp (isInstance (.ref x) (.type "object")) true := by
    refine inst.type.andThen (W.looks_mroIn X ?_)
    unfold W.mroIn
    rw [hcd, Option.bind_some, if_neg (by rw [full]; decide), isObj]
  refine codeAny_call_builtin SF.slot.plain SF.entry ?_
  refine @W.check_slot (model prog w) _ _ ⟨hp, g, d, t, os⟩ "object.__setattr__" "object" "__setattr__" (.ref x) [.str name tk, v] [] _ SF.kind SF.split sub (SF.args (.ref x) (.str name tk) v) ?_
  have order : W.Looks (model prog w) hp (mroOf (.ref C)) cd.mro := (W.looks_clsIn X hcd).andThen .now
  have taker : W.Looks (model prog w) hp (storeTaker? none) none := .now
  have data : W.Looks (model prog w) hp (classData C) cd := W.looks_clsIn X hcd
  rw [W.osa_eq, refuse_eq]
  refine wpAny_bind (wpAny_bind (inst.type.at (wpAny_bind (order.at ?_))))
  rw [excTail_pass (.ref x) (pass _) _ hm]
  refine wpAny_pure (wpAny_bind (inst.type.at (wpAny_bind ((W.looks_findIn X ha).at ?_))))
  refine wpAny_bind (taker.at ?_)
  show wpAny _ _ (storeInOwnDict (.ref x) (.ref C) (.str name tk) name v false) _ _ _
  obtain ⟨nm, bs, mro, ns, qn, hd, sn, sb, ab, col, del⟩ := cd
  dsimp only at hh
  subst hh
  unfold storeInOwnDict ownDictForStores
  repeat (first | with_reducible refine store_in_new ?_ ?_ | with_reducible refine wpAny_loadPart_at hx ?_ | with_reducible refine data.at ?_ | wp_step)
  · refine ⟨_, #[], _, (Heap.get?_update_ne _ _ _ _ off.symm).trans (Heap.get?_push_at rfl rfl), rfl, ?_, fun _ => rfl⟩
    intro e he
    exact absurd he (by simp)
  · intro h' tk' hn' hs
    have was : (hp.push { cls := .type "dict", data := .dict #[] }).get? x = some { cls := .ref C, data := .fields fv } := Heap.get?_push_of_some _ hx
    refine q h' tk' hp.objs.size ?_ (Nat.le_refl _) off.symm ((hs.2 x off).trans (Heap.get?_update_self _ was rfl)) hn'
    intro b o hb ho
    exact (hs.2 b (Nat.ne_of_lt (Heap.lt_size ho))).trans ((Heap.get?_update_ne _ _ _ _ hb).trans (Heap.get?_push_of_some _ ho))
end
end Gd
/-! own errors held as values: made, asked for their classes, their fields read -/
namespace Gd
open PySem PySem.Spec PyProof.Rows L2
/-- an error of the class cls at a, its own dict at d -/
def ExD (cls : Value) (a d : Addr) : HO := .ext fun h => ∃ (oe : Obj) (vs : Array Value), h.get? a = some oe ∧ Zc cls (some d) oe ∧ oe.data = .fields vs
theorem exD_ok {P : Program} {w : World} {H : Hp} {h : Heap} {a d : Addr} {cls : Value} {oe : Obj} {vs : Array Value} (e : h.get? a = some oe) (z : Zc cls (some d) oe) (dt : oe.data = .fields vs) : ObjOk P w H h a (ExD cls a d) := by
  refine ⟨⟨oe, vs, e, z, dt⟩, ⟨oe, e⟩, ?_⟩
  rintro h1 h2 ⟨o, v, q, r⟩ k
  exact ⟨o, v, k o q, r⟩
/-- an error of the class at C stands at a -/
def ErrAt (H : Hp) (a C : Addr) : Prop := H a = some (ExO (.ref C) a) ∨ ∃ d fs, H a = some (ExD (.ref C) a d) ∧ H d = some (.xd fs)
theorem ErrAt.keep {H H' : Hp} {a C : Addr} (h : ErrAt H a C) (s : Same H H') : ErrAt H' a C := by
  rcases h with h | ⟨d, fs, h1, h2⟩
  · exact .inl (s _ _ h)
  · exact .inr ⟨d, fs, s _ _ h1, s _ _ h2⟩
/-- what isinstance asks of the class of an error -/
structure ExcV (K : PySem.W.Frag) (D : Addr) : Prop where
  cl : (PySem.W.clsIn K D).isSome = true
  ga : PySem.W.findIn K (.ref D) "__getattribute__" = some (some (.builtin "BaseException.__getattribute__"))
  gg : PySem.W.findIn K (.ref D) "__getattr__" = some none
  sb : PySem.W.subIn K (.ref D) (.type "BaseException") = some true
  ca : PySem.W.findIn K (.ref D) "__class__" = some (some (.builtin "object.__class__"))
  cg : PySem.W.specialIn K (.builtin "object.__class__") "__get__" = some (some (.builtin "getset_descriptor.__get__"))
  ct : PySem.W.takesIn K (.builtin "object.__class__") = some true
  co : PySem.W.mroIn K D (.type "object") = some true
structure OwnMade (fld : Str) (h h' : Heap) (e C d : Addr) (v : Value) : Prop where
  keep : ∀ b o, h.get? b = some o → h'.get? b = some o
  new : h.objs.size ≤ e
  obj : ∃ oe vs, h'.get? e = some oe ∧ oe.cls = .ref C ∧ oe.dict = some d ∧ oe.data = .fields vs
  dbig : h.objs.size ≤ d
  dne : d ≠ e
  ns : h'.Ns1 d (fun y => if y = fld then some v else none)
section
variable {X : Cx} {pins : List (Addr × Obj)} {σ : L2.St} {H : Hp} {s : Shared} {a C : Addr}
theorem ErrAt.inst (I : Inv X pins σ H s) (h : ErrAt H a C) : ∃ oe od, PySem.W.InstAt s.heap a oe C od := by
  rcases h with h | ⟨d, fs, h1, h2⟩
  · obtain ⟨⟨oe, vs, ho, hz, hd, _⟩, _, _⟩ := I.hok a _ h
    obtain ⟨oc, odd, oda, osl⟩ := oe
    obtain ⟨z1, z2⟩ := hz
    dsimp only at z1 z2 hd
    subst z1 z2 hd
    exact ⟨_, none, ho, rfl, rfl, trivial⟩
  · obtain ⟨⟨oe, vs, ho, hz, hd⟩, _, _⟩ := I.hok a _ h1
    have ox : ObjOk X.prog X.w H s.heap d (.xd fs) := I.hok d _ h2
    obtain ⟨mA, hns, _⟩ := ox
    obtain ⟨od, hod, _⟩ := lookIn_ns hns
    exact ⟨oe, some od, ho, hz.1, by unfold PySem.W.notCls; rw [hd] <;> rfl, by rw [hz.2]; exact hod⟩
def rIsV (K : PySem.W.Frag) : List V → Hp → VK → Prop := fun xs H Q => ∃ (a C : Addr) (c : V) (u : Value) (b : Bool), xs = [.ref a, c] ∧ ErrAt H a C ∧ ExcV K C ∧ ClsV c u ∧ PySem.W.kitOne K (.ref C) u = some b ∧ Q (.bl b) H
theorem call_isV : CallR X (.builtin "isinstance") (rIsV X.K) := by
  intro pins s σ H xs us Q I r want
  obtain ⟨a, C, c, u, b, rfl, ea, D, kc, e, q⟩ := want
  obtain ⟨u1, u2, rfl, r1, r2⟩ := vals2 r
  cases r1
  have e2 := kc.eq r2
  subst e2
  obtain ⟨oe, od, J⟩ := ea.inst I
  exact PySem.W.kia_one (PySem.W.kitx_exc D.cl D.ga D.gg D.sb D.ca D.cg D.ct D.co) I.kIn J e (fun z => nomatch z) fun tk => ⟨.bl b, H, I.tok tk, rfl, q⟩
end
section
variable {X : Cx} {x : Str} {C : Addr} {p pos : Pos}
/-- X(), an own class without own __init__ -/
theorem pe_exc0 {bmB : List Value} {B newId initId : String} (F : ExcBaseFacts B newId initId bmB) (q : PySem.W.excIn X.K C bmB newId = true) (gC : X.mg x = some (.ref C)) (kC : PySem.W.keepIn X.K (.ref C) = true) (hg : Gl X x)
    (hdb : (x == ("__debug__" : Str)) = false := by decide) : PE X (.Call (.Name x p) [] [] pos) (fun σ H Q => ∀ a, H a = none → Q (.ref a) (upd H a (ExO (.ref C) a))) := by
  refine ⟨fun pins s σ H Q I want => ?_⟩
  refine wpAny_Call_Name_kw (ld_glob I hg gC ?_ hdb)
  refine PySem.W.callWith_K0 I.kIn kC ?_
  obtain ⟨bm, N, nm, qn, bs, hdct, sn, sub, ab, col, dd, k0, k1, k2, k3, k5, mN, hC, hN, hni, T⟩ := exc_obj I.kIn q
  refine wpAny_call_exc_subT F T hC hN hni (fun h' a made => ?_) (by show 0 ≤ sizeLine; exact Nat.zero_le _)
  have free : H a = none := I.hok.gone made.new
  obtain ⟨t, ht, _, _⟩ := made.there
  exact ⟨.ref a, upd H a (ExO (.ref C) a), I.laidN made.keeps made.new free (exO_ok ht ⟨rfl, rfl⟩ rfl rfl rfl (show 4 < 6 by decide)), rfl, want a free⟩
theorem relO_fld {fld : Str} {v : V} {u : Value} (r : RelV v u) (f : Str) : RelO (List.lookup f [(fld, v)]) (if f = fld then some u else none) := by
  by_cases e : f = fld
  · subst e
    rw [if_pos rfl, List.lookup_cons_self]
    exact r
  · have z : (f == fld) = false := by simpa using e
    rw [if_neg e, List.lookup_cons, z]
    trivial
/-- X(e), an own class whose __init__ keeps e as a field -/
theorem pe_mkV {fld : Str} {a : Expr} {ta : TA} {k : Nat}
    (made : ∀ {s : Shared} {u : Value} {R : Result → Shared → Prop}, X.K.In s.heap → s.heap.NoLimit → X.A.depth + 1 < recursionLimit → (∀ h' tk e d, OwnMade fld s.heap h' e C d u → R (.ok (.ret (.ref e))) { s with heap := h', toks := tk }) →
      codeAny (model X.prog X.w) X.A (.call (.ref C) ⟨[u], []⟩) R s)
    (gC : X.mg x = some (.ref C)) (kC : PySem.W.keepIn X.K (.ref C) = true) (hr : Room k X.A) (hg : Gl X x) (ha : PA X [a] ta) (hdb : (x == ("__debug__" : Str)) = false := by decide)
    (he : starEach (a :: []) X.env = (false, eval a X.env) :: starEach [] X.env := by rfl) (hpl : (backTo pos (starEach [] X.env)).any (·.1) = false := by rfl) :
    PE X (.Call (.Name x p) [a] [] pos) (fun σ H Q => ta σ H fun vs H1 => ∃ v, vs = [v] ∧ ∀ d e, H1 d = none → H1 e = none → d ≠ e → Q (.ref e) (upd (upd H1 d (.xd [(fld, v)])) e (ExD (.ref C) e d))) := by
  refine ⟨fun pins s σ H Q I want => ?_⟩
  refine wpAny_Call_Name_kw (ld_glob I hg gC ?_ hdb)
  refine PySem.W.callWith_K (h₀ := X.base) I.ok.mod.kin kC (thn (ha.run pos pins s σ H _ I want) ?_) he hpl
  rintro us s1 ⟨vs, H1, I1, r1, v, rfl, q1⟩
  refine ⟨I1.kIn, ?_⟩
  obtain ⟨u, rfl, ru⟩ := vals1 r1
  show wpAny _ _ (call (.ref C) [u]) _ _ _
  have lim := I1.nolimit
  obtain ⟨hp, g, dr, tk, os⟩ := s1
  refine wpAny_call (made I1.kIn lim (by have := hr.dp; omega) ?_)
  intro h' tk' e d M
  obtain ⟨oe, fv, hoe, hc, hd, hdat⟩ := M.obj
  obtain ⟨G', g1, g2⟩ := restrict h' fun b => decide (b ≠ e)
  have same : ∀ b, b ≠ e → G'.get? b = h'.get? b := fun b hb => g1 b (decide_eq_true hb)
  have gone : G'.get? e = none := g2 e (by simp)
  have old : ∀ b o, hp.get? b = some o → G'.get? b = some o := fun b o z => (same b (Nat.ne_of_lt (Nat.lt_of_lt_of_le (Heap.lt_size z) M.new))).trans (M.keep b o z)
  have ob : ObjOk X.prog X.w (upd H1 d (.xd [(fld, v)])) G' d (.xd [(fld, v)]) := ⟨_, M.ns.at (fun o z => (same d M.dne).trans z), fun f => relO_fld ru f⟩
  have J : Inv X pins σ (upd H1 d (.xd [(fld, v)])) ⟨G', g, dr, tk', os⟩ := I1.laid (t' := tk') old M.dbig ob
  have fe : H1 e = none := I1.hok.fresh M.new
  have fd : H1 d = none := I1.hok.fresh M.dbig
  have fe2 : (upd H1 d (.xd [(fld, v)])) e = none := by rw [upd_ne (Ne.symm M.dne)]; exact fe
  have J2 : Inv X pins σ (upd (upd H1 d (.xd [(fld, v)])) e (ExD (.ref C) e d)) ⟨h', g, dr, tk', os⟩ := by
    refine J.laidN (h' := h') (t' := tk') (fun b o z => ?_) gone fe2 (exD_ok hoe ⟨hc, hd⟩ hdat)
    by_cases hb : b = e
    · have z' : G'.get? b = some o := z
      rw [hb, gone] at z'
      cases z'
    · exact (same b hb).symm.trans z
  exact ⟨.ref e, _, J2, rfl, q1 d e fd fe M.dne⟩
/-- e.f, e such an error -/
def tFldV (C : Addr) (fld : Str) (te : TE) : TE := fun σ H Q => te σ H fun y H1 => ∃ a d v, y = .ref a ∧ H1 a = some (ExD (.ref C) a d) ∧ H1 d = some (.xd [(fld, v)]) ∧ Q v H1
theorem pe_fldV {fld : Str} {e : Expr} {te : TE} (ga : PySem.W.findIn X.K (.ref C) "__getattribute__" = some (some (.builtin "BaseException.__getattribute__"))) (gg : PySem.W.findIn X.K (.ref C) "__getattr__" = some none)
    (exC : PySem.W.subIn X.K (.ref C) (.type "BaseException") = some true) (hdC : PySem.W.hasDictIn X.K C = true) (noN : PySem.W.findIn X.K (.ref C) fld = some none) (he : PE X e te) (hb : attributeBase e fld X.env (eval e X.env) = eval e X.env := by rfl) :
    PE X (.Attribute e fld pos) (tFldV C fld te) := by
  refine ⟨fun pins s σ H Q I want => ?_⟩
  refine attr_of hb (thn (he.run pins s σ H _ I want) ?_)
  rintro u s1 ⟨y, H1, I1, ry, a, d, v, rfl, ha, hd, q⟩
  cases ry
  obtain ⟨⟨oe, vs, ho, hz, hdt⟩, _, _⟩ := I1.hok a _ ha
  have ox : ObjOk X.prog X.w H1 s1.heap d (.xd [(fld, v)]) := I1.hok d _ hd
  obtain ⟨mA, hns, hr⟩ := ox
  obtain ⟨od, hod, hl⟩ := lookIn_ns hns
  have look : List.lookup fld [(fld, v)] = some v := List.lookup_cons_self
  obtain ⟨u, hu, ru⟩ := RelO.some_of (v := v) (o := mA fld) (by rw [← look]; exact hr fld)
  have J : PySem.W.InstAt s1.heap a oe C (some od) := ⟨ho, hz.1, by unfold PySem.W.notCls; rw [hdt] <;> rfl, by rw [hz.2]; exact hod⟩
  exact HandSPX.exc_get I1.kIn J ga gg exC (PySem.W.findObj_own hdC noN rfl (by rw [hl, hu])) (handed_of ru) ⟨v, H1, I1.tok _, ru, q⟩
end
end Gd
namespace Lw
open PySem PySem.Spec PyProof.Rows L2 Gd
def topS (i : Nat) : Stmt := PySem.Challenge.pw_leastplaces_k01_bounds_and_errors.main.body.getD i (.Pass ⟨0, 0, 0, 0⟩)
abbrev sStream : Stmt := topS 32
abbrev sDraw : Stmt := topS 33
theorem scDraw : FnScope ["_law_stream_here", "_law_many", "_law_rest", "_law_turn", "_law_cell", "_law_mixed"] ["_law_stream_here", "_law_many"] (defScope sDraw) := ⟨rfl, rfl, rfl, by decide +kernel, rfl, by decide +kernel, by decide +kernel⟩

/-! ### the stream -/
/-- what the draws may change -/
abbrev Av (s a : Addr) : Addr → Prop := fun x => x = s ∨ x = a
structure Sm (H : Hp) (s a b : Addr) (n : Nat) : Prop where
  ex : ∃ (t : Int) (bigs cells : List Int), H s = some (.lst [.ref a, .ref b, .int t]) ∧ H a = some (.lst (bigs.map V.int)) ∧ H b = some (.lst (cells.map V.int)) ∧ (∀ c ∈ bigs, 0 ≤ c) ∧ (∀ c ∈ cells, 0 ≤ c) ∧ cells ≠ [] ∧
    cells.length ≤ 64 ∧ bigs.length ≤ 63 ∧ 0 ≤ t ∧ t ≤ n
  sa : s ≠ a
  sb : s ≠ b
  ab : a ≠ b
theorem Sm.keep {H H' : Hp} {s a b : Addr} {n : Nat} (x : Sm H s a b n) (k : Same H H') : Sm H' s a b n := by
  obtain ⟨⟨t, bigs, cells, h1, h2, h3, r⟩, p1, p2, p3⟩ := x
  exact ⟨⟨t, bigs, cells, k _ _ h1, k _ _ h2, k _ _ h3, r⟩, p1, p2, p3⟩
theorem Sm.mono {H : Hp} {s a b : Addr} {n m : Nat} (x : Sm H s a b n) (k : n ≤ m) : Sm H s a b m := by
  obtain ⟨⟨t, bigs, cells, h1, h2, h3, h4, h5, h6, h7, h8, h9, h10⟩, p1, p2, p3⟩ := x
  exact ⟨⟨t, bigs, cells, h1, h2, h3, h4, h5, h6, h7, h8, h9, by omega⟩, p1, p2, p3⟩
theorem same_upd {H : Hp} {p : Addr} {o : HO} (h : H p = none) : Same H (upd H p o) := fun b x e => by
  rw [upd_ne (ne_of_none e h)]
  exact e
theorem dpAll_ints {K : PySem.W.Frag} {H : Hp} : ∀ ns : List Int, DpAll K H (ns.map V.int) (ns.map PyData.int)
  | [] => .nil
  | n :: r => .cons (.int n) (dpAll_ints r)
theorem eqv_nil (ns : List Int) : PyData.eqv (.list (ns.map PyData.int)) (.list []) = ns.isEmpty := by
  cases ns <;> simp [PyData.eqv, PyData.eqvAll]

theorem ixN_cons {x : Int} {r : List Int} : ixN ((x :: r).map V.int).length 0 = some 0 := by
  unfold ixN
  rw [if_pos (Int.le_refl 0), if_pos (by rw [List.length_map, List.length_cons]; omega)]
  rfl
def spDraw : Sp := fun vs H Q _ => ∃ (s a b : Addr) (n : Nat) (m : Int), vs = [.ref s, .int m] ∧ Sm H s a b n ∧ n < 1000000 ∧ 0 < m ∧ m ≤ 1000000000 ∧
  ∀ H' r, Kp (Av s a) H H' → Sm H' s a b (n + 1) → 0 ≤ r → r < m → Q (.int r) H'
section
variable {P : Program} {w : World} {K : PySem.W.Frag} {mg : Str → Option Value} {base : Heap}
theorem ok_draw {f : Addr} {fd : FuncData} {k : Nat} (F : Fun K "_law_draw" "_law_draw" sDraw f fd) (ml : mg "len" = none) : FnOk P w K mg base CX0 (k + 1) f fd ["_law_stream_here", "_law_many"] spDraw := by
  refine F.ok scDraw (fun vs H Q E h => ?_) (fun cdv A outer st H vs Q E hr h => ?_)
  · obtain ⟨s, a, b, n, m, rfl, _⟩ := h
    rfl
  · obtain ⟨s, a, b, n, m, rfl, sm, hn, m0, m1, q⟩ := h
    have mIx : ∀ {i : Nat}, PlainIx (.Constant (.int 0) 0 ⟨i, i, i, i⟩) := fun _ _ => rfl
    refine ⟨_, pss_cons (ps_while PassesOwn.never (pt_cmpR (op_neD hr.units) (pe_ix ix_list (pv 0) pe_int (fun _ _ => rfl)) (pe_lst pa_nil) (nomark _))
        (pss_cons (ps_set (i := 2) scDraw.nd rfl (.inl rfl) (pe_ix ix_list (pe_ix ix_list (pv 0) pe_int (fun _ _ => rfl)) pe_int (fun _ _ => rfl)))
        (pss_cons (ps_if (pt_cmpR op_gt (pv 2) pe_int (nomark _))
          (pss_cons (ps_asg (pe_op op_fdiv (pv 2) (pv 1)) (pg_sub (pe_ix ix_list (pv 0) pe_int (fun _ _ => rfl)) pe_int set_list))
            (pss_one (ps_ret (pe_op op_mod (pv 2) (pv 1))))) pss_nil)
        (pss_one (ps_expr (pe_bm PySem.F.plainAttrs_list PySem.F.slot_list_pop PySem.F.type_list_pop mt_popAt (pe_ix ix_list (pv 0) pe_int (fun _ _ => rfl)) (pa_cons pe_int pa_nil)))))))
      (pss_cons (ps_set (i := 3) scDraw.nd rfl (.inl rfl) (pe_op op_add (pe_ix ix_list (pv 0) pe_int (fun _ _ => rfl)) pe_int))
      (pss_cons (ps_asg (pv 3) (pg_sub (pv 0) pe_int set_list))
      (pss_cons (ps_set (i := 4) scDraw.nd rfl (.inl rfl) (pe_op op_mod (pe_ix ix_list (pe_ix ix_list (pv 0) pe_int (fun _ _ => rfl))
          (pe_op op_mod (pv 3) (pe_callB call_len_seq (by rfl) ml PySem.boot_len (pa_cons (pe_ix ix_list (pv 0) pe_int (fun _ _ => rfl)) pa_nil))) (fun _ _ => rfl)) pe_int))
      (pss_cons (ps_set (i := 5) scDraw.nd rfl (.inl rfl) (pe_op op_mod (pe_op op_add (pe_op op_add (pe_op op_mul (pv 4) (pe_op op_add pe_int (pe_op op_mul pe_int (pv 3)))) (pe_op op_mul (pe_op op_mul pe_int (pv 3)) (pv 3))) pe_int) pe_int))
      (pss_one (ps_ret (pe_op op_mod (pe_op op_fdiv (pe_op op_mod (pe_op op_mul (pv 5) (pv 5)) pe_int) pe_int) (pv 1)))))))), ?_⟩
    refine ⟨fun c σ H1 => Kp (Av s a) H H1 ∧ Sm H1 s a b n ∧ (∃ y2, σ = [some (.ref s), some (.int m), y2, none, none, none]) ∧ ∃ bigs : List Int, H1 a = some (.lst (bigs.map V.int)) ∧ bigs.length = c, ?_, fun c σ H1 hw => ?_⟩
    · obtain ⟨⟨t, bigs, cells, hS, hA, _⟩, _⟩ := id sm
      exact ⟨_, Kp.refl _, sm, ⟨none, rfl⟩, bigs, hA, rfl⟩
    obtain ⟨kp, ⟨⟨t, bigs, cells, hS, hA, hB, bp, cp, cn, cl, bl, t0, tn⟩, sa, sb, ab⟩, ⟨y2, rfl⟩, bigs', hA', hc⟩ := hw
    have eb : bigs' = bigs := by
      have z := hA'.symm.trans hA
      have z2 : bigs'.map V.int = bigs.map V.int := HO.lst.inj (Option.some.inj z)
      exact (List.map_inj_right (fun x y e => V.int.inj e)).mp z2
    subst eb
    -- while _law_stream_here[0] != []
    refine ⟨.ref s, rfl, s, _, 0, .ref a, rfl, rfl, .inl (.inl hS), rfl, Nat.zero_le _, fun p np => ?_⟩
    have s1 : Same H1 (upd H1 p (.lst [])) := same_upd np
    refine ⟨.list (bigs'.map PyData.int), .list [], .lst (.inl (.inl (s1 _ _ hA))) (dpAll_ints _), .lst (.inl (.inl upd_same)) .nil, PySem.W.ke_shaped_ints _, by decide +kernel, _, rfl, ?_⟩
    have k1 : Kp (Av s a) H (upd H1 p (.lst [])) := kp.trans (Kp.of_same s1)
    rw [eqv_nil]
    cases bigs' with
    | cons x r =>
      refine iteT ?_
      have x0 : 0 ≤ x := bp x List.mem_cons_self
      refine ⟨fun σ' H' => Kp (Av s a) H H' ∧ Sm H' s a b n ∧ (∃ y2, σ' = [some (.ref s), some (.int m), y2, none, none, none]) ∧ H' a = some (.lst (r.map V.int)), fun σ' H' z => ⟨r.length, by rw [← hc]; exact Nat.lt_succ_self _, z.1, z.2.1, z.2.2.1, r, z.2.2.2, rfl⟩, ?_⟩
      -- _law_rest = _law_stream_here[0][0]
      refine ⟨.ref s, rfl, s, _, 0, .ref a, rfl, rfl, .inl (.inl (s1 _ _ hS)), rfl, a, _, 0, .int x, rfl, rfl, .inl (.inl (s1 _ _ hA)), at_of (j := 0) rfl rfl, ?_⟩
      -- if _law_rest > 0
      refine ⟨.int x, rfl, x, 0, rfl, rfl, _, rfl, ite2 (fun e => ?_) (fun e => ?_)⟩
      · have e' : 0 < x := of_decide_eq_true e
        refine ⟨.int x, rfl, .int m, rfl, x, m, rfl, rfl, ⟨m0, by omega⟩, .ref s, rfl, s, _, 0, .ref a, rfl, rfl, .inl (.inl (s1 _ _ hS)), rfl, a, _, 0, 0, rfl, rfl, s1 _ _ hA, ixN_cons, ?_⟩
        refine ⟨.int x, rfl, .int m, rfl, x, m, rfl, rfl, m0, ?_⟩
        refine q _ _ (fun z o hz nz => ?_) ?_ (Int.emod_nonneg _ (by omega)) (Int.emod_lt_of_pos _ m0)
        · rw [upd_ne (fun e => nz (.inr e))]
          exact k1 z o hz nz
        · refine ⟨⟨t, (x / m) :: r, cells, ?_, ?_, ?_, ?_, cp, cn, cl, bl, t0, by omega⟩, sa, sb, ab⟩
          · rw [upd_ne sa]
            exact s1 _ _ hS
          · rw [upd_same]
            rfl
          · rw [upd_ne (Ne.symm ab)]
            exact s1 _ _ hB
          · intro c hc
            rcases List.mem_cons.mp hc with rfl | hc
            · exact Int.ediv_nonneg x0 (by omega)
            · exact bp c (List.mem_cons_of_mem _ hc)
      · -- _law_stream_here[0].pop(0)
        refine ⟨.ref s, rfl, s, _, 0, .ref a, rfl, rfl, .inl (.inl (s1 _ _ hS)), rfl, .inl ⟨rfl, _, .inl (.inl (s1 _ _ hA))⟩, a, _, 0, 0, .int x, rfl, rfl, s1 _ _ hA, by decide, by decide, (ixN_seq ixN_cons).1, rfl, ?_⟩
        refine ⟨fun z o hz nz => ?_, ⟨⟨t, r, cells, ?_, ?_, ?_, fun c hc => bp c (List.mem_cons_of_mem _ hc), cp, cn, cl, Nat.le_of_succ_le bl, t0, tn⟩, sa, sb, ab⟩, ⟨_, rfl⟩, ?_⟩
        · rw [upd_ne (fun e => nz (.inr e))]
          exact k1 z o hz nz
        · rw [upd_ne sa]
          exact s1 _ _ hS
        · rw [upd_same]
          rfl
        · rw [upd_ne (Ne.symm ab)]
          exact s1 _ _ hB
        · rw [upd_same]
          rfl
    | nil =>
      refine iteF ?_
      -- _law_turn = _law_stream_here[2] + 1
      refine ⟨.ref s, rfl, s, _, 2, .int t, rfl, rfl, .inl (.inl (s1 _ _ hS)), rfl, t, 1, rfl, rfl, ?_⟩
      -- _law_stream_here[2] = _law_turn
      refine ⟨.int (t + 1), rfl, .ref s, rfl, s, _, 2, 2, rfl, rfl, s1 _ _ hS, rfl, ?_⟩
      have gS : (upd (upd H1 p (.lst [])) s (.lst [.ref a, .ref b, .int (t + 1)])) s = some (.lst [.ref a, .ref b, .int (t + 1)]) := upd_same
      have gB : (upd (upd H1 p (.lst [])) s (.lst [.ref a, .ref b, .int (t + 1)])) b = some (.lst (cells.map V.int)) := by
        rw [upd_ne (Ne.symm sb)]
        exact s1 _ _ hB
      have gA : (upd (upd H1 p (.lst [])) s (.lst [.ref a, .ref b, .int (t + 1)])) a = some (.lst (([] : List Int).map V.int)) := by
        rw [upd_ne (Ne.symm sa)]
        exact s1 _ _ hA
      have lpos : 0 < cells.length := List.length_pos_iff.mpr cn
      have ml1 : (0 : Int) < ((cells.map V.int).length : Int) := by rw [List.length_map]; omega
      obtain ⟨j, hj, hj2⟩ : ∃ j : Nat, (t + 1) % ((cells.map V.int).length : Int) = (j : Int) ∧ j < cells.length := by
        refine ⟨((t + 1) % ((cells.map V.int).length : Int)).toNat, ?_, ?_⟩
        · rw [Int.toNat_of_nonneg (Int.emod_nonneg _ (by omega))]
        · have z := Int.emod_lt_of_pos (t + 1) ml1
          rw [List.length_map] at z ⊢
          have z0 : 0 ≤ (t + 1) % (cells.length : Int) := Int.emod_nonneg _ (by omega)
          omega
      have gj : (cells.map V.int)[j]? = some (.int cells[j]) := by
        rw [List.getElem?_map, List.getElem?_eq_getElem hj2]
        rfl
      -- _law_cell
      refine ⟨.ref s, rfl, s, _, 1, .ref b, rfl, rfl, .inl (.inl gS), rfl, .int (t + 1), rfl, .ref s, rfl, s, _, 1, .ref b, rfl, rfl, .inl (.inl gS), rfl, b, _, rfl, .inl (.inl (.inl gB)), t + 1, _, rfl, rfl, ml1,
        b, _, _, .int cells[j], rfl, rfl, .inl (.inl gB), at_of hj gj, cells[j], 2147483587, rfl, rfl, by show (0 : Int) < 2147483587; decide, ?_⟩
      have c0 : 0 ≤ cells[j] % 2147483587 := Int.emod_nonneg _ (by decide)
      have c1 : cells[j] % 2147483587 < 2147483587 := Int.emod_lt_of_pos _ (by decide)
      -- _law_mixed
      refine ⟨_, rfl, _, rfl, 48271, t + 1, rfl, rfl, .inl ⟨by decide, by decide⟩, 40692, _, rfl, rfl, _, _, rfl, rfl, .inl ⟨by omega, by omega⟩, _, rfl, 69621, t + 1, rfl, rfl, .inl ⟨by decide, by decide⟩, _, rfl, _, t + 1, rfl, rfl, .inr ⟨by omega, by omega⟩, _, _, rfl, rfl, _, 23, rfl, rfl, _, 2147483647, rfl, rfl, by show (0 : Int) < 2147483647; decide, ?_⟩
      refine ⟨_, rfl, _, rfl, _, _, rfl, rfl, .inl ⟨?_, ?_⟩, _, 2147483629, rfl, rfl, by show (0 : Int) < 2147483629; decide, _, 16, rfl, rfl, ⟨by decide, by decide⟩, .int m, rfl, _, m, rfl, rfl, m0, ?_⟩
      · exact Int.lt_of_lt_of_le (by decide) (Int.emod_nonneg _ (by decide))
      · exact Int.lt_trans (Int.emod_lt_of_pos _ (by decide)) (by decide)
      · refine q _ _ (fun z o hz nz => ?_) ?_ (Int.emod_nonneg _ (by omega)) (Int.emod_lt_of_pos _ m0)
        · show (upd (upd H1 p (.lst [])) s (.lst [.ref a, .ref b, .int (t + 1)])) z = some o
          rw [upd_ne (fun e => nz (.inl e))]
          exact k1 z o hz nz
        · exact ⟨⟨t + 1, [], cells, gS, gA, gB, bp, cp, cn, cl, bl, by omega, by omega⟩, sa, sb, ab⟩
end
end Lw
namespace Lw
open PySem PySem.Spec PyProof.Rows L2 Gd
theorem scStream : FnScope ["_law_script", "_law_cells", "_law_cell"] ["_law_script"] (defScope sStream) := ⟨rfl, rfl, rfl, by decide +kernel, rfl, by decide +kernel, by decide +kernel⟩
def absI (i : Int) : Int := if i < 0 then -i else i
theorem absI_nn (i : Int) : 0 ≤ absI i := by unfold absI; split <;> omega
theorem getm {α : Type} {ns : List Int} {f : Int → α} {i : Nat} {x : α} (h : (ns.map f)[i]? = some x) : ∃ n, ns[i]? = some n ∧ x = f n := by
  rw [List.getElem?_map] at h
  cases e : ns[i]? with
  | none => rw [e] at h; cases h
  | some n => rw [e] at h; exact ⟨n, rfl, (Option.some.inj h).symm⟩
theorem small_of {n : Nat} (h : n ≤ 100000) : n < sizeLine := Nat.lt_of_le_of_lt h (by decide)
def spStream (K : PySem.W.Frag) : Sp := fun vs H Q _ => ∃ (sc : Addr) (ns : List Int), vs = [.ref sc] ∧ SqL K H sc (ns.map V.int) ∧ ns.length ≤ 63 ∧
  ∀ H' s a b, Same H H' → H s = none → H a = none → H b = none → Sm H' s a b 0 → Q (.ref s) H'
section
variable {P : Program} {w : World} {K : PySem.W.Frag} {mg : Str → Option Value} {base : Heap}
theorem ok_stream {f : Addr} {fd : FuncData} {k : Nat} (F : Fun K "_law_stream" "_law_stream" sStream f fd) (ml : mg "len" = none) (ma : mg "abs" = none) : FnOk P w K mg base CX0 (k + 1) f fd ["_law_script"] (spStream K) := by
  refine F.ok scStream (fun vs H Q E h => ?_) (fun cdv A outer st H vs Q E hr h => ?_)
  · obtain ⟨s, ns, rfl, _⟩ := h
    rfl
  · obtain ⟨sc, ns, rfl, hS, hl, q⟩ := h
    refine ⟨_, pss_cons (ps_setLc (i := 1) (own := [("_law_cell", 2)]) (g := gName 2) (tt := tYes) rfl scStream.nd rfl rfl (sw_true rfl rfl rfl (by decide +kernel)) (pi_list (pv 0))
        (blkOk_by (N := ["_law_script", "_law_cells", "_law_cell"]) (sc := defScope sStream) (by decide +kernel)) (fun _ _ _ _ _ => pg_name (i := 2) scStream.nd rfl (Or.inl rfl)) (fun _ _ _ _ _ => pts_nil)
        (fun _ _ _ _ _ => pe_callB call_abs (by rfl) ma (by decide +kernel) (pa_cons (pv 2) pa_nil)))
      (pss_one (ps_ret (pe_lst (pa_cons (pe_lc (own := [("_law_cell", 2)]) (g := gName 2) (by rfl) scStream.nd (pi_list (pv 1)) (blkOk_by (N := ["_law_script", "_law_cells", "_law_cell"]) (sc := defScope sStream) (by decide +kernel))
          (fun _ _ _ _ _ => pg_name (i := 2) scStream.nd rfl (Or.inl rfl)) (fun _ _ _ _ _ => pts_one (pt_cmpR op_ge (pv 2) (pe_op op_pow pe_int pe_int) (nomark _))) (fun _ _ _ _ _ => pv 2))
        (pa_cons (pe_op op_cat (pv 1) (pe_lst (pa_cons (pe_op op_add (pe_callB call_len_seq (by rfl) ml PySem.boot_len (pa_cons (pv 1) pa_nil)) pe_int) pa_nil))) (pa_cons pe_int pa_nil)))))), ?_⟩
    -- _law_cells
    refine ⟨.ref sc, rfl, sc, rfl, ⟨_, hS⟩, fun D nD => lc_list (xs := ns.map V.int) (fun i H1 => Same H H1 ∧ H1 D = some (.lst ((ns.take i).map fun n => V.int (absI n)))) ⟨same_upd nD, upd_same⟩ (fun i H1 _ p => p.1.seq hS) (fun i x H1 hx p => ?_) (fun H1 p => ?_)⟩
    · obtain ⟨n, hn, rfl⟩ := getm hx
      obtain ⟨sm, hD⟩ := p
      refine ⟨rfl, .int n, rfl, n, rfl, _, hD, ?_, fun b o e => ?_, ?_⟩
      · rw [List.length_map, List.length_take]
        exact small_of (by omega)
      · rw [upd_ne (ne_of_none e nD)]
        exact sm _ _ e
      · rw [upd_same, List.take_add_one, hn, List.map_append]
        rfl
    · obtain ⟨sm1, hD1⟩ := p
      rw [List.length_map, List.take_length] at hD1
      have hD1' : H1 D = some (.lst ((ns.map absI).map V.int)) := by
        rw [hD1, List.map_map]
        rfl
      -- the large cells
      refine ⟨.ref D, rfl, D, rfl, ⟨_, .inl (.inl hD1')⟩, fun A1 nA => lc_list (xs := (ns.map absI).map V.int) (fun i H2 => Same H1 H2 ∧ ∃ bs : List Int, H2 A1 = some (.lst (bs.map V.int)) ∧ bs.length ≤ i ∧ ∀ c ∈ bs, 0 ≤ c) ⟨same_upd nA, [], upd_same, Nat.le_refl _, fun _ z => nomatch z⟩ (fun i H2 _ p => .inl (.inl (p.1 _ _ hD1'))) (fun i x H2 hx p => ?_) (fun H2 p => ?_)⟩
      · obtain ⟨m, hm, rfl⟩ := getm hx
        obtain ⟨n, hn, rfl⟩ := getm hm
        obtain ⟨sm2, bs, hA, lb, pb⟩ := p
        refine ⟨rfl, .int (absI n), rfl, 10, 18, rfl, rfl, ⟨by decide, by decide, by decide⟩, absI n, _, rfl, rfl, _, rfl, ite2 (fun e => ?_) (fun e => ?_)⟩
        · have hi : i < ns.length := (List.getElem?_eq_some_iff.mp hn).1
          refine ⟨.int (absI n), rfl, _, hA, by rw [List.length_map]; exact small_of (by omega), fun b o e => ?_, bs ++ [absI n], ?_, ?_, fun c hc => ?_⟩
          · rw [upd_ne (ne_of_none e nA)]
            exact sm2 _ _ e
          · rw [upd_same, List.map_append]
            rfl
          · rw [List.length_append]
            exact Nat.add_le_add_right lb 1
          · rcases List.mem_append.mp hc with hc | hc
            · exact pb c hc
            · rw [List.mem_singleton.mp hc]
              exact absI_nn n
        · exact ⟨sm2, bs, hA, by omega, pb⟩
      · obtain ⟨sm2, bs, hA, lb, pb⟩ := p
        have lb' : bs.length ≤ 63 := by
          rw [List.length_map, List.length_map] at lb
          omega
        have hD2 := sm2 _ _ hD1'
        -- _law_cells + [len(_law_cells) + 19]
        refine ⟨.ref D, rfl, .ref D, rfl, D, _, rfl, .inl (.inl (.inl hD2)), _, 19, rfl, rfl, by show 1 ≤ sizeLine; decide, fun p1 n1 => ?_⟩
        have s3 := same_upd (o := .lst [.int (((ns.map absI).map V.int).length + 19)]) n1
        refine ⟨D, p1, _, _, rfl, rfl, s3 _ _ hD2, upd_same, ?_, fun B nB => ?_⟩
        · rw [List.length_map, List.length_map]
          exact Nat.le_of_lt (small_of (by show ns.length + 1 ≤ 100000; omega))
        · have s4 := same_upd (o := .lst ((ns.map absI).map V.int ++ [.int (((ns.map absI).map V.int).length + 19)])) nB
          refine ⟨by show 3 ≤ sizeLine; decide, fun s nS => ?_⟩
          have s5 := same_upd (o := .lst [.ref A1, .ref B, .int 0]) nS
          have all := sm1.trans (sm2.trans (s3.trans (s4.trans s5)))
          have g3 := s3 _ _ hA
          have g4 := s4 _ _ g3
          have gB : (upd (upd (upd H2 p1 (.lst [.int (((ns.map absI).map V.int).length + 19)])) B (.lst ((ns.map absI).map V.int ++ [.int (((ns.map absI).map V.int).length + 19)]))) s (.lst [.ref A1, .ref B, .int 0])) B = _ := s5 _ _ upd_same
          refine q _ s A1 B all ((sm1.trans (sm2.trans (s3.trans s4))).free nS) (sm1.free nA) ((sm1.trans (sm2.trans s3)).free nB) ⟨⟨0, bs, ns.map absI ++ [((ns.length : Int) + 19)], upd_same, s5 _ _ g4, ?_, pb, fun c hc => ?_, by simp, ?_, lb', Int.le_refl _, Int.le_refl _⟩, ?_, ?_, ?_⟩
          · rw [gB, List.map_append, List.length_map, List.length_map]
            rfl
          · rcases List.mem_append.mp hc with hc | hc
            · obtain ⟨n, _, rfl⟩ := List.mem_map.mp hc
              exact absI_nn n
            · rw [List.mem_singleton.mp hc]
              omega
          · rw [List.length_append, List.length_map]
            show ns.length + 1 ≤ 64
            omega
          · exact fun e => (ne_of_none g4 nS) e.symm
          · exact fun e => (ne_of_none (H := upd (upd H2 p1 _) B _) upd_same nS) e.symm
          · exact ne_of_none g3 nB
end
end Lw
namespace Lw
open PySem PySem.Spec PyProof.Rows L2 Gd
abbrev sOdd : Stmt := topS 34
theorem scOdd : FnScope ["_law_stream_here", "_law_some"] ["_law_stream_here"] (defScope sOdd) := ⟨rfl, rfl, rfl, by decide +kernel, rfl, by decide +kernel, by decide +kernel⟩
/-- a small piece of data -/
structure Small (k : Nat) (d : PyData) : Prop where
  sh : d.showable = true
  lv : d.leavesShort 100 = true
  wt : d.weight ≤ k
  dp : d.depth ≤ 1
def It (av : Addr → Prop) (H : Hp) (v : V) : Prop := ∃ d, Dv av H v d ∧ Small 200 d
theorem It.keep {av : Addr → Prop} {H H' : Hp} {v : V} (x : It av H v) (k : Kp av H H') : It av H' v := by
  obtain ⟨d, h, s⟩ := x
  exact ⟨d, h.keep k, s⟩
theorem len_int {i : Int} (h : i.natAbs < 10 ^ 30) : (Str.ofString (toString i)).length ≤ 100 := by
  have e := int_text_length_le10 (k := 30) (by decide) h
  rw [PySem.ofString_length]
  omega
theorem It.int {av : Addr → Prop} {H : Hp} {i : Int} (h : i.natAbs < 10 ^ 30) : It av H (.int i) := by
  have e : i.natAbs.log2 < 100 := by
    by_cases z : i.natAbs = 0
    · rw [z]
      decide
    · exact (Nat.log2_lt z).mpr (Nat.lt_of_lt_of_le h (by decide))
  refine ⟨.int i, .int i, ?_, ?_, ?_, ?_⟩
  · rw [PyData.showable]
    exact decide_eq_true (by omega)
  · rw [PyData.leavesShort]
    refine decide_eq_true ?_
    rw [PyData.shown_int]
    exact len_int h
  · rw [PyData.weight]
    split <;> omega
  · rw [PyData.depth]
    omega
def oddAll (p1 p2 p3 p4 p5 p6 p7 p8 p9 p10 : Addr) : List V := [.non, .bl true, .bl false, .int (-1), .int 0, .int 1, .int 2, .int 11, .int 12, .int 13, .int (10 ^ (29 : Int).toNat), .str "", .str "0", .ref p1, .ref p2, .ref p3, .ref p4, .ref p5, .ref p6, .ref p7] ++ [.ref p8, .ref p9, .str "a", .ref p10]
theorem paired_ix {α β : Type} {R : α → β → Prop} {xs : List α} {ds : List β} (h : Paired R xs ds) : ∀ (i : Nat) (x : α) (d : β), xs[i]? = some x → ds[i]? = some d → R x d := by
  induction h with
  | nil => intro i x d h1 h2; simp at h1
  | cons r _ ih =>
    intro i x d h1 h2
    cases i with
    | zero =>
      cases h1
      cases h2
      exact r
    | succ i => exact ih i x d h1 h2
theorem It.tup {av : Addr → Prop} {H : Hp} {p : Addr} {xs : List V} {ds : List PyData} (e : H p = some (.tup xs)) (n : ¬ av p) (h : Paired (Dv av H) xs ds) (s : Small 200 (.tuple ds)) : It av H (.ref p) :=
  ⟨_, .tup e n (Paired.length h) (paired_ix h), s⟩
theorem It.lst {av : Addr → Prop} {H : Hp} {p : Addr} {xs : List V} {ds : List PyData} (e : H p = some (.lst xs)) (n : ¬ av p) (h : Paired (Dv av H) xs ds) (s : Small 200 (.list ds)) : It av H (.ref p) :=
  ⟨_, .lst e n (Paired.length h) (paired_ix h), s⟩
def spOdd : Sp := fun vs H Q _ => ∃ (s a b : Addr) (n : Nat), vs = [.ref s] ∧ Sm H s a b n ∧ n < 1000000 ∧
  ∀ H' v, Kp (Av s a) H H' → Sm H' s a b (n + 1) → It (Av s a) H' v → Q v H'
section
variable {P : Program} {w : World} {K : PySem.W.Frag} {mg : Str → Option Value} {base : Heap}
theorem ok_odd {f fD : Addr} {fd fdD : FuncData} {k : Nat} (F : Fun K "_law_odd" "_law_odd" sOdd f fd) (GD : FnOk P w K mg base CX0 k fD fdD ["_law_stream_here", "_law_many"] spDraw) (FD : Fun K "_law_draw" "_law_draw" sDraw fD fdD)
    (bD : Binds K fdD ["_law_stream_here", "_law_many"] []) (gD : mg "_law_draw" = some (.ref fD)) : FnOk P w K mg base CX0 (k + 1) f fd ["_law_stream_here"] spOdd := by
  refine F.ok scOdd (fun vs H Q E h => ?_) (fun cdv A outer st H vs Q E hr h => ?_)
  · obtain ⟨s, a, b, n, rfl, _⟩ := h
    rfl
  · obtain ⟨s, a, b, n, rfl, sm, hn, q⟩ := h
    refine ⟨_, pss_cons (ps_set (i := 1) scOdd.nd rfl (.inl rfl) (pe_lst
        (pa_cons pe_non (pa_cons pe_bl (pa_cons pe_bl (pa_cons (pe_un un_neg pe_int) (pa_cons pe_int (pa_cons pe_int (pa_cons pe_int (pa_cons pe_int (pa_cons pe_int (pa_cons pe_int (pa_cons (pe_op op_pow pe_int pe_int)
        (pa_cons pe_str (pa_cons pe_str (pa_cons (pe_tup pa_nil) (pa_cons (pe_lst pa_nil) (pa_cons pe_dnewK (pa_cons (pe_tup (pa_cons pe_int pa_nil)) (pa_cons (pe_lst (pa_cons pe_int pa_nil)) (pa_cons (pe_tup (pa_cons pe_bl pa_nil))
        (pa_cons (pe_tup (pa_cons pe_int (pa_cons pe_int pa_nil))) pa_nil))))))))))))))))))))))
      (pss_one (ps_ret (pe_ix ix_list (pe_op op_cat (pv 1) (pe_lst (pa_cons (pe_tup (pa_cons pe_int (pa_cons pe_int (pa_cons pe_int pa_nil)))) (pa_cons (pe_disp (pps_cons pe_str pe_int pps_nil) (by rfl) (by rfl) (fun z => by cases z) (by decide))
          (pa_cons pe_str (pa_cons (pe_tup (pa_cons pe_non pa_nil)) pa_nil))))))
        (pe_call GD hr (by rfl) gD FD.kp bD .nil pass0 (pa_cons (pv 0) (pa_cons pe_int pa_nil))) (fun _ _ => rfl)))), ?_⟩
    have hs0 : H s = some _ := sm.ex.choose_spec.choose_spec.choose_spec.1
    have one : (1 : Nat) ≤ sizeLine := by decide
    refine ⟨1, rfl, 10, 29, rfl, rfl, ⟨by decide, by decide, by decide⟩, Nat.zero_le _, fun p1 n1 => ⟨Nat.zero_le _, fun p2 n2 => fun p3 n3 => ⟨one, fun p4 n4 => ⟨one, fun p5 n5 => ⟨one, fun p6 n6 => ⟨by show 2 ≤ sizeLine; decide, fun p7 n7 => ⟨by show 20 ≤ sizeLine; decide, fun l1 m1 => ?_⟩⟩⟩⟩⟩⟩⟩
    have s1 : Same H (upd H p1 (.tup [])) := same_upd n1
    have e1 : (upd H p1 (.tup [])) p1 = some (.tup []) := upd_same
    generalize upd H p1 (.tup []) = G1 at *
    have s2 : Same G1 (upd G1 p2 (.lst [])) := same_upd n2
    have e2 : (upd G1 p2 (.lst [])) p2 = some (.lst []) := upd_same
    generalize upd G1 p2 (.lst []) = G2 at *
    have s3 : Same G2 (upd G2 p3 (.dK [])) := same_upd n3
    have e3 : (upd G2 p3 (.dK [])) p3 = some (.dK []) := upd_same
    generalize upd G2 p3 (.dK []) = G3 at *
    have s4 : Same G3 (upd G3 p4 (.tup [.int 0])) := same_upd n4
    have e4 : (upd G3 p4 (.tup [.int 0])) p4 = some (.tup [.int 0]) := upd_same
    generalize upd G3 p4 (.tup [.int 0]) = G4 at *
    have s5 : Same G4 (upd G4 p5 (.lst [.int 0])) := same_upd n5
    have e5 : (upd G4 p5 (.lst [.int 0])) p5 = some (.lst [.int 0]) := upd_same
    generalize upd G4 p5 (.lst [.int 0]) = G5 at *
    have s6 : Same G5 (upd G5 p6 (.tup [.bl true])) := same_upd n6
    have e6 : (upd G5 p6 (.tup [.bl true])) p6 = some (.tup [.bl true]) := upd_same
    generalize upd G5 p6 (.tup [.bl true]) = G6 at *
    have s7 : Same G6 (upd G6 p7 (.tup [.int 0, .int 1])) := same_upd n7
    have e7 : (upd G6 p7 (.tup [.int 0, .int 1])) p7 = some (.tup [.int 0, .int 1]) := upd_same
    generalize upd G6 p7 (.tup [.int 0, .int 1]) = G7 at *
    have s8 : Same G7 (upd G7 l1 (.lst [.non, .bl true, .bl false, .int (-1), .int 0, .int 1, .int 2, .int 11, .int 12, .int 13, .int (10 ^ (29 : Int).toNat), .str "", .str "0", .ref p1, .ref p2, .ref p3, .ref p4, .ref p5, .ref p6, .ref p7])) := same_upd m1
    have e8 : (upd G7 l1 (.lst [.non, .bl true, .bl false, .int (-1), .int 0, .int 1, .int 2, .int 11, .int 12, .int 13, .int (10 ^ (29 : Int).toNat), .str "", .str "0", .ref p1, .ref p2, .ref p3, .ref p4, .ref p5, .ref p6, .ref p7])) l1 = some (.lst [.non, .bl true, .bl false, .int (-1), .int 0, .int 1, .int 2, .int 11, .int 12, .int 13, .int (10 ^ (29 : Int).toNat), .str "", .str "0", .ref p1, .ref p2, .ref p3, .ref p4, .ref p5, .ref p6, .ref p7]) := upd_same
    refine ⟨.ref l1, rfl, ?_⟩
    show tLst _ _ (upd G7 l1 (.lst [.non, .bl true, .bl false, .int (-1), .int 0, .int 1, .int 2, .int 11, .int 12, .int 13, .int (10 ^ (29 : Int).toNat), .str "", .str "0", .ref p1, .ref p2, .ref p3, .ref p4, .ref p5, .ref p6, .ref p7])) _
    generalize upd G7 l1 (.lst [.non, .bl true, .bl false, .int (-1), .int 0, .int 1, .int 2, .int 11, .int 12, .int 13, .int (10 ^ (29 : Int).toNat), .str "", .str "0", .ref p1, .ref p2, .ref p3, .ref p4, .ref p5, .ref p6, .ref p7]) = G8 at *
    refine ⟨by show 3 ≤ sizeLine; decide, fun p8 n8 => fun p9 n9 => ?_⟩
    have s9 : Same G8 (upd G8 p8 (.tup [.int 0, .int 0, .int 0])) := same_upd n8
    have e9 : (upd G8 p8 (.tup [.int 0, .int 0, .int 0])) p8 = some (.tup [.int 0, .int 0, .int 0]) := upd_same
    generalize upd G8 p8 (.tup [.int 0, .int 0, .int 0]) = G9 at *
    refine ⟨upd_same, [(Sum.inr "a", .int 1)], rfl, by decide, one, fun p10 n10 => ⟨by show 4 ≤ sizeLine; decide, fun l2 m2 => ?_⟩⟩
    have ec : upd (upd G9 p9 (.dK [])) p9 (.dK (mergeK [] [(Sum.inr "a", .int 1)])) = upd G9 p9 (.dK [(Sum.inr "a", .int 1)]) := by
      rw [upd_upd]
      rfl
    rw [ec] at n10 m2
    rw [ec]
    have s10 : Same G9 (upd G9 p9 (.dK [(Sum.inr "a", .int 1)])) := same_upd n9
    have e10 : (upd G9 p9 (.dK [(Sum.inr "a", .int 1)])) p9 = some (.dK [(Sum.inr "a", .int 1)]) := upd_same
    generalize upd G9 p9 (.dK [(Sum.inr "a", .int 1)]) = G10 at *
    have s11 : Same G10 (upd G10 p10 (.tup [.non])) := same_upd n10
    have e11 : (upd G10 p10 (.tup [.non])) p10 = some (.tup [.non]) := upd_same
    generalize upd G10 p10 (.tup [.non]) = G11 at *
    have s12 : Same G11 (upd G11 l2 (.lst [.ref p8, .ref p9, .str "a", .ref p10])) := same_upd m2
    have e12 : (upd G11 l2 (.lst [.ref p8, .ref p9, .str "a", .ref p10])) l2 = some (.lst [.ref p8, .ref p9, .str "a", .ref p10]) := upd_same
    generalize upd G11 l2 (.lst [.ref p8, .ref p9, .str "a", .ref p10]) = G12 at *
    have t11 := s12
    have t10 := s11.trans t11
    have t9 := s10.trans t10
    have t8 := s9.trans t9
    have t7 := s8.trans t8
    have t6 := s7.trans t7
    have t5 := s6.trans t6
    have t4 := s5.trans t5
    have t3 := s4.trans t4
    have t2 := s3.trans t3
    have t1 := s2.trans t2
    have t0 := s1.trans t1
    refine ⟨l1, l2, _, _, rfl, rfl, t8 _ _ e8, e12, by show 24 ≤ sizeLine; decide, fun l3 m3 => ?_⟩
    have s13 := same_upd (o := .lst (oddAll p1 p2 p3 p4 p5 p6 p7 p8 p9 p10)) m3
    have av : ∀ {p : Addr}, H p = none → ¬ Av s a p := fun {p} z y => by
      obtain ⟨⟨_, _, _, z1, z2, _⟩, _⟩ := id sm
      rcases y with y | y
      · rw [y, z1] at z
        cases z
      · rw [y, z2] at z
        cases z
    refine ⟨.ref s, rfl, s, a, b, n, 24, rfl, (sm.keep t0).keep s13, hn, by decide, by decide, fun H' r kp sm2 r0 r1 => ?_⟩
    have kall : Kp (Av s a) G12 H' := (Kp.of_same s13).trans kp
    have hl3 : H' l3 = some (.lst (oddAll p1 p2 p3 p4 p5 p6 p7 p8 p9 p10)) := kp _ _ upd_same (av (t0.free m3))
    obtain ⟨j, rfl⟩ : ∃ j : Nat, r = (j : Int) := ⟨r.toNat, by omega⟩
    have hj : j < 24 := by omega
    refine ⟨l3, _, _, (oddAll p1 p2 p3 p4 p5 p6 p7 p8 p9 p10).getD j .non, rfl, rfl, .inl (.inl hl3), atI_nat ?_, q H' _ ((Kp.of_same t0).trans kall) sm2 ?_⟩
    · rw [List.getD_eq_getElem?_getD, List.getElem?_eq_getElem (by show j < 24; exact hj)]
      rfl
    · have f1 := kall _ _ (t1 _ _ e1) (av n1)
      have f2 := kall _ _ (t2 _ _ e2) (av (s1.free n2))
      have f3 := kall _ _ (t3 _ _ e3) (av ((s1.trans s2).free n3))
      have f4 := kall _ _ (t4 _ _ e4) (av ((s1.trans (s2.trans s3)).free n4))
      have f5 := kall _ _ (t5 _ _ e5) (av ((s1.trans (s2.trans (s3.trans s4))).free n5))
      have f6 := kall _ _ (t6 _ _ e6) (av ((s1.trans (s2.trans (s3.trans (s4.trans s5)))).free n6))
      have f7 := kall _ _ (t7 _ _ e7) (av ((s1.trans (s2.trans (s3.trans (s4.trans (s5.trans s6))))).free n7))
      have c8 := s1.trans (s2.trans (s3.trans (s4.trans (s5.trans (s6.trans (s7.trans s8))))))
      have f8 := kall _ _ (t9 _ _ e9) (av (c8.free n8))
      have f9 := kall _ _ (t10 _ _ e10) (av ((c8.trans s9).free n9))
      have f10 := kall _ _ (t11 _ _ e11) (av ((c8.trans (s9.trans s10)).free n10))
      have all : ∀ v ∈ oddAll p1 p2 p3 p4 p5 p6 p7 p8 p9 p10, It (Av s a) H' v := by
        intro v hv
        simp only [oddAll, List.mem_append, List.mem_cons, List.not_mem_nil, or_false] at hv
        rcases hv with (rfl | rfl | rfl | rfl | rfl | rfl | rfl | rfl | rfl | rfl | rfl | rfl | rfl | rfl | rfl | rfl | rfl | rfl | rfl | rfl) | (rfl | rfl | rfl | rfl)
        · exact ⟨_, .non, ⟨rfl, rfl, by decide, by decide⟩⟩
        · exact ⟨_, .bl _, ⟨rfl, rfl, by decide, by decide⟩⟩
        · exact ⟨_, .bl _, ⟨rfl, rfl, by decide, by decide⟩⟩
        · exact It.int (by decide)
        · exact It.int (by decide)
        · exact It.int (by decide)
        · exact It.int (by decide)
        · exact It.int (by decide)
        · exact It.int (by decide)
        · exact It.int (by decide)
        · exact It.int (by decide)
        · exact ⟨_, .str _, ⟨rfl, by decide +kernel, by decide +kernel, by decide⟩⟩
        · exact ⟨_, .str _, ⟨rfl, by decide +kernel, by decide +kernel, by decide⟩⟩
        · exact It.tup f1 (av n1) .nil ⟨by decide +kernel, by decide +kernel, by decide +kernel, by decide +kernel⟩
        · exact It.lst f2 (av (s1.free n2)) .nil ⟨by decide +kernel, by decide +kernel, by decide +kernel, by decide +kernel⟩
        · exact ⟨_, .dct f3 (av ((s1.trans s2).free n3)) (fun _ z => nomatch z), ⟨by decide +kernel, by decide +kernel, by decide +kernel, by decide +kernel⟩⟩
        · exact It.tup f4 (av ((s1.trans (s2.trans s3)).free n4)) (.cons (.int 0) .nil) ⟨by decide +kernel, by decide +kernel, by decide +kernel, by decide +kernel⟩
        · exact It.lst f5 (av ((s1.trans (s2.trans (s3.trans s4))).free n5)) (.cons (.int 0) .nil) ⟨by decide +kernel, by decide +kernel, by decide +kernel, by decide +kernel⟩
        · exact It.tup f6 (av ((s1.trans (s2.trans (s3.trans (s4.trans s5)))).free n6)) (.cons (.bl true) .nil) ⟨by decide +kernel, by decide +kernel, by decide +kernel, by decide +kernel⟩
        · exact It.tup f7 (av ((s1.trans (s2.trans (s3.trans (s4.trans (s5.trans s6))))).free n7)) (.cons (.int 0) (.cons (.int 1) .nil)) ⟨by decide +kernel, by decide +kernel, by decide +kernel, by decide +kernel⟩
        · exact It.tup f8 (av (c8.free n8)) (.cons (.int 0) (.cons (.int 0) (.cons (.int 0) .nil))) ⟨by decide +kernel, by decide +kernel, by decide +kernel, by decide +kernel⟩
        · exact ⟨_, .dct f9 (av ((c8.trans s9).free n9)) (fun p z => by rw [List.mem_singleton.mp z]; rfl), ⟨by decide +kernel, by decide +kernel, by decide +kernel, by decide +kernel⟩⟩
        · exact ⟨_, .str _, ⟨rfl, by decide +kernel, by decide +kernel, by decide⟩⟩
        · exact It.tup f10 (av ((c8.trans (s9.trans s10)).free n10)) (.cons .non .nil) ⟨by decide +kernel, by decide +kernel, by decide +kernel, by decide +kernel⟩
      refine all _ ?_
      rw [List.getD_eq_getElem?_getD, List.getElem?_eq_getElem (by show j < 24; exact hj)]
      exact List.getElem_mem _
end
end Lw
namespace PySem
namespace NotAlikeX
open PySem.W PySem.Calls PyProof.Rows PySem.HandSPX
abbrev exTl : List Value := [.type "ValueError", .type "Exception", .type "BaseException", .type "object"]
/-! ### the text of __init__ -/
def iA (p1 p2 : Pos) : Arguments := { posonlyargs := [], args := [{ arg := "self", annotation := none, pos := p1 }, { arg := "index", annotation := none, pos := p2 }], vararg := none, kwonlyargs := [], kw_defaults := [], kwarg := none, defaults := [] }
def iB (q1 q2 q3 q4 : Pos) : List Stmt := [.Assign [.Attribute (.Name "self" q1) "index" q2] (.Name "index" q3) q4]
def iS : Scope := { kind := .function, names := [(PySem.Str.ofString "self", .local), (PySem.Str.ofString "index", .local)], isGenerator := false, isCoroutine := false, more := [] }
/-- what the written part says of Low, at C, and of its __init__, at fI -/
structure NotAlikeTxt (K : Frag) (mg : Str → Option Value) (C fI : Addr) : Prop where
  gC : mg "NotAlike" = some (.ref C)
  cls : ∃ nm q N bs bm sn sub ab col dd k0 k1 k2 k3 k5, K.lookup C = some (excClassObj nm q C N bs bm true sn sub ab col dd k0 k1 k2 k3 k5 "ValueError.__new__") ∧ excTail exTl bm = true
  sa : findIn K (.ref C) "__setattr__" = some (some (.builtin "object.__setattr__"))
  ga : findIn K (.ref C) "__getattribute__" = some (some (.builtin "BaseException.__getattribute__"))
  gg : findIn K (.ref C) "__getattr__" = some none
  noN : findIn K (.ref C) "index" = some none
  iC : findIn K (.ref C) "__init__" = some (some (.ref fI))
  tC : typeIn K (.ref fI) = some (.type "function")
  kC : keepIn K (.ref C) = true
  exC : subIn K (.ref C) (.type "BaseException") = some true
  tyC : typeIn K (.ref C) = some (.type "type")
  hdC : hasDictIn K C = true
  te : exmOne K (.ref C) (.ref C) = some true
  fn : ∃ (oc : Value) (od : Option Addr) (doc pm : Value) (an : Option Addr) (cdv ct : Value) (osl : Array (Option Value)) (p1 p2 q1 q2 q3 q4 : Pos),
    K.lookup fI = some ⟨oc, od, .func (fnOf "__init__" "NotAlike.__init__" (iA p1 p2) (iB q1 q2 q3 q4) iS .none .none doc pm an cdv ct), osl⟩ ∧ codeIn K cdv "NotAlike.__init__" = true
theorem one_size (v : Value) : [v].length ≤ sizeLine := by
  rw [sizeLine_eq]
  exact (by decide : 1 ≤ 16777216)
theorem kept_but {K : Frag} {h h' : Heap} {x : Addr} (X : K.In h) (hx : K.lookup x = none) (k : ∀ b o, b ≠ x → h.get? b = some o → h'.get? b = some o) : K.In h' := fun a o e =>
  k a o (fun z => by rw [z, hx] at e; cases e) (X a o e)
theorem ldC {M : Model} {s : Shared} {name : Str} {scope : Scope} {L a : Addr} {cd : Value} {m : Str → Option Value} {x : Str} {pos : Pos} {v : Value} {Q : Value → Shared → Prop} {A : Around} {E : Value → Shared → Prop} (hn : s.heap.Ns L m) (hv : m x = some v) (h : Q v s)
    (hk : scope.kind = .function := by rfl) (hl : (envOfC name scope L a cd).kindOf x = some .local := by rfl) (hd : (x == ("__debug__" : Str)) = false := by decide) :
    wpAny M A (eval (.Name x pos) (envOfC name scope L a cd)) Q E s := wpAny_Name (wpAny_loadName_local hk hl hn hv h) hd
/-- what __init__ leaves of a fresh exception at x -/
structure InitEnd (h h' : Heap) (x C dx t1 : Addr) (v : Value) : Prop where
  keep : ∀ b o, b ≠ x → h.get? b = some o → h'.get? b = some o
  obj : h'.get? x = some { cls := .ref C, dict := some dx, data := .fields #[.ref t1, .none, .none, .none, .bool false, .none] }
  dbig : h.objs.size ≤ dx
  dne : dx ≠ x
  ns : h'.Ns1 dx (fun y => if y = "index" then some v else none)
section
variable {prog : Program} {w : World} {A : Around} {E : Value → Shared → Prop} {R : Result → Shared → Prop} {s : Shared} {K : Frag} {mg : Str → Option Value} {C fI : Addr}
theorem c_init (T : NotAlikeTxt K mg C fI) {x t0 : Addr} {v : Value} (X : K.In s.heap) (hlim : s.heap.NoLimit) (hx : s.heap.get? x = some (excO C t0)) (hnx : K.lookup x = none) (hroom : A.depth < recursionLimit)
    (hq : ∀ h' tk dx, InitEnd s.heap h' x C dx t0 v → R (.ok (.ret .none)) { s with heap := h', toks := tk }) :
    codeAny (model prog w) A (.call (.ref fI) ⟨[.ref x, v], []⟩) R s := by
  obtain ⟨oc, od, doc, pm, an, cdv, ct, osl, p1, p2, q1, q2, q3, q4, ho, hcd⟩ := T.fn
  obtain ⟨nm, q, N, bs, bm, sn, sub, ab, col, dd, k0, k1, k2, k3, k5, hC, hbm⟩ := T.cls
  have hcl : clsIn K C = some { name := nm, bases := bs, mro := .ref C :: bm, ns := N, qualname := q, hasDict := true, slotNames := sn, subclasses := sub, abstract := ab, collection := col, hasDel := false } := by unfold clsIn; rw [hC] <;> rfl
  refine Att.call_fn (binds := [("self", .ref x), ("index", v)]) X hlim ho hcd hroom (BindsTo.of_eq (by first | rfl | with_unfolding_all rfl)) (by first | rfl | decide | with_unfolding_all rfl) (fun s₁ IC => ?_) rfl rfl rfl
  obtain ⟨h₁, tk₁, rfl⟩ := IC.toInCall.same
  have k : ∀ b o, s.heap.get? b = some o → h₁.get? b = some o := IC.toInCall.keep
  have hn := IC.toInCall.ns
  have hxL : s.heap.objs.size ≠ x := Nat.ne_of_gt (Heap.lt_size hx)
  have X₁ : K.In h₁ := X.keeps k
  have hx₁ := k _ _ hx
  -- self.by = by
  show wpAny _ _ (execs _ _) _ _ _
  refine wpAny_execs_cons (plainObj_wpAny_Assign_Attribute ?_)
  refine ldC (v := v) hn (by first | rfl | with_unfolding_all rfl | kernel_rfl) (ldC (v := .ref x) hn (by first | rfl | with_unfolding_all rfl | kernel_rfl) ?_)
  refine set_plain X₁ (ox := excO C t0) (od := none) ⟨hx₁, rfl, rfl, trivial⟩ T.sa ?_
  refine Gd.osaX (fun self => F.store_ValueError.passes self) (by decide +kernel) X₁ hx₁ hcl (show excTail exTl (.ref C :: bm) = true from hbm) rfl T.noN (fun h₃ tk₃ dx k₃ dn dne hx₃ hn₃ => ?_)
  show wpAny _ _ (execs _ _) _ _ _
  have z : s.heap.objs.size < h₁.objs.size := hn.lt
  exact wpAny_execs_nil (hq h₃ tk₃ dx ⟨fun b o hb e => k₃ b o hb (k b o e), hx₃, Nat.le_of_lt (Nat.lt_of_lt_of_le z dn), dne, hn₃⟩)
theorem c_made (T : NotAlikeTxt K mg C fI) {v : Value} (X : K.In s.heap) (hlim : s.heap.NoLimit) (hroom : A.depth + 1 < recursionLimit)
    (hq : ∀ h' tk e d, Gd.OwnMade "index" s.heap h' e C d v → R (.ok (.ret (.ref e))) { s with heap := h', toks := tk }) :
    codeAny (model prog w) A (.call (.ref C) ⟨[v], []⟩) R s := by
  obtain ⟨nm, q, N, bs, bm, sn, sub, ab, col, dd, k0, k1, k2, k3, k5, hC, hbm⟩ := T.cls
  obtain ⟨hp, g, dr, tk, os⟩ := s
  have k : ∀ b o, hp.get? b = some o → ((hp.push (kdv_tup [v])).push (excO C hp.objs.size)).get? b = some o := fun b o e => Heap.get?_push_of_some _ (Heap.get?_push_of_some _ e)
  have hget : ((hp.push (kdv_tup [v])).push (excO C hp.objs.size)).get? (hp.objs.size + 1) = some (excO C hp.objs.size) := by heap_get
  have hnx : K.lookup (hp.objs.size + 1) = none := by
    cases e : K.lookup (hp.objs.size + 1) with
    | none => rfl
    | some o =>
      have z : hp.get? (hp.objs.size + 1) = some o := X _ _ e
      exact absurd (Nat.lt_of_succ_lt (Heap.lt_size z)) (Nat.lt_irrefl _)
  refine call_own F.excBase_ValueError (fun X => excTail_contains X bm hbm) (X _ _ hC) (looks_findIn X T.iC) (fun self => bind_fn X self T.tC) (one_size v) ?_
  refine c_init (s := ⟨(hp.push (kdv_tup [v])).push (excO C hp.objs.size), g, dr, tk, os⟩) T (X.keeps k) (hlim.keeps k) hget hnx ?_ fun h' tk' dx ⟨k', hx, dn, dne, hns⟩ => ?_
  · show A.depth + 1 < recursionLimit
    exact hroom
  · have old : ∀ b o, hp.get? b = some o → h'.get? b = some o := fun b o e => k' b o (Nat.ne_of_lt (Nat.lt_succ_of_lt (Heap.lt_size e))) (k b o e)
    have z : hp.objs.size + 1 + 1 ≤ dx := by
      first
        | (simpa only [Heap.size_push] using dn)
        | exact dn
        | (have q := dn; rw [Heap.size_push, Heap.size_push] at q; exact q)
    exact ⟨rfl, hq h' tk' (hp.objs.size + 1) dx ⟨old, Nat.le_succ _, ⟨_, _, hx, rfl, rfl, rfl⟩, Nat.le_trans (Nat.le_trans (Nat.le_succ _) (Nat.le_succ _)) z, dne, hns⟩⟩
end
end NotAlikeX
end PySem
namespace PySem
namespace BadTargetsX
open PySem.W PySem.Calls PyProof.Rows PySem.HandSPX
abbrev exTl : List Value := [.type "ValueError", .type "Exception", .type "BaseException", .type "object"]
/-! ### the text of __init__ -/
def iA (p1 p2 : Pos) : Arguments := { posonlyargs := [], args := [{ arg := "self", annotation := none, pos := p1 }, { arg := "value", annotation := none, pos := p2 }], vararg := none, kwonlyargs := [], kw_defaults := [], kwarg := none, defaults := [] }
def iB (q1 q2 q3 q4 : Pos) : List Stmt := [.Assign [.Attribute (.Name "self" q1) "value" q2] (.Name "value" q3) q4]
def iS : Scope := { kind := .function, names := [(PySem.Str.ofString "self", .local), (PySem.Str.ofString "value", .local)], isGenerator := false, isCoroutine := false, more := [] }
/-- what the written part says of Low, at C, and of its __init__, at fI -/
structure BadTargetsTxt (K : Frag) (mg : Str → Option Value) (C fI : Addr) : Prop where
  gC : mg "BadTargets" = some (.ref C)
  cls : ∃ nm q N bs bm sn sub ab col dd k0 k1 k2 k3 k5, K.lookup C = some (excClassObj nm q C N bs bm true sn sub ab col dd k0 k1 k2 k3 k5 "ValueError.__new__") ∧ excTail exTl bm = true
  sa : findIn K (.ref C) "__setattr__" = some (some (.builtin "object.__setattr__"))
  ga : findIn K (.ref C) "__getattribute__" = some (some (.builtin "BaseException.__getattribute__"))
  gg : findIn K (.ref C) "__getattr__" = some none
  noN : findIn K (.ref C) "value" = some none
  iC : findIn K (.ref C) "__init__" = some (some (.ref fI))
  tC : typeIn K (.ref fI) = some (.type "function")
  kC : keepIn K (.ref C) = true
  exC : subIn K (.ref C) (.type "BaseException") = some true
  tyC : typeIn K (.ref C) = some (.type "type")
  hdC : hasDictIn K C = true
  te : exmOne K (.ref C) (.ref C) = some true
  fn : ∃ (oc : Value) (od : Option Addr) (doc pm : Value) (an : Option Addr) (cdv ct : Value) (osl : Array (Option Value)) (p1 p2 q1 q2 q3 q4 : Pos),
    K.lookup fI = some ⟨oc, od, .func (fnOf "__init__" "BadTargets.__init__" (iA p1 p2) (iB q1 q2 q3 q4) iS .none .none doc pm an cdv ct), osl⟩ ∧ codeIn K cdv "BadTargets.__init__" = true
theorem one_size (v : Value) : [v].length ≤ sizeLine := by
  rw [sizeLine_eq]
  exact (by decide : 1 ≤ 16777216)
theorem kept_but {K : Frag} {h h' : Heap} {x : Addr} (X : K.In h) (hx : K.lookup x = none) (k : ∀ b o, b ≠ x → h.get? b = some o → h'.get? b = some o) : K.In h' := fun a o e =>
  k a o (fun z => by rw [z, hx] at e; cases e) (X a o e)
theorem ldC {M : Model} {s : Shared} {name : Str} {scope : Scope} {L a : Addr} {cd : Value} {m : Str → Option Value} {x : Str} {pos : Pos} {v : Value} {Q : Value → Shared → Prop} {A : Around} {E : Value → Shared → Prop} (hn : s.heap.Ns L m) (hv : m x = some v) (h : Q v s)
    (hk : scope.kind = .function := by rfl) (hl : (envOfC name scope L a cd).kindOf x = some .local := by rfl) (hd : (x == ("__debug__" : Str)) = false := by decide) :
    wpAny M A (eval (.Name x pos) (envOfC name scope L a cd)) Q E s := wpAny_Name (wpAny_loadName_local hk hl hn hv h) hd
/-- what __init__ leaves of a fresh exception at x -/
structure InitEnd (h h' : Heap) (x C dx t1 : Addr) (v : Value) : Prop where
  keep : ∀ b o, b ≠ x → h.get? b = some o → h'.get? b = some o
  obj : h'.get? x = some { cls := .ref C, dict := some dx, data := .fields #[.ref t1, .none, .none, .none, .bool false, .none] }
  dbig : h.objs.size ≤ dx
  dne : dx ≠ x
  ns : h'.Ns1 dx (fun y => if y = "value" then some v else none)
section
variable {prog : Program} {w : World} {A : Around} {E : Value → Shared → Prop} {R : Result → Shared → Prop} {s : Shared} {K : Frag} {mg : Str → Option Value} {C fI : Addr}
theorem c_init (T : BadTargetsTxt K mg C fI) {x t0 : Addr} {v : Value} (X : K.In s.heap) (hlim : s.heap.NoLimit) (hx : s.heap.get? x = some (excO C t0)) (hnx : K.lookup x = none) (hroom : A.depth < recursionLimit)
    (hq : ∀ h' tk dx, InitEnd s.heap h' x C dx t0 v → R (.ok (.ret .none)) { s with heap := h', toks := tk }) :
    codeAny (model prog w) A (.call (.ref fI) ⟨[.ref x, v], []⟩) R s := by
  obtain ⟨oc, od, doc, pm, an, cdv, ct, osl, p1, p2, q1, q2, q3, q4, ho, hcd⟩ := T.fn
  obtain ⟨nm, q, N, bs, bm, sn, sub, ab, col, dd, k0, k1, k2, k3, k5, hC, hbm⟩ := T.cls
  have hcl : clsIn K C = some { name := nm, bases := bs, mro := .ref C :: bm, ns := N, qualname := q, hasDict := true, slotNames := sn, subclasses := sub, abstract := ab, collection := col, hasDel := false } := by unfold clsIn; rw [hC] <;> rfl
  refine Att.call_fn (binds := [("self", .ref x), ("value", v)]) X hlim ho hcd hroom (BindsTo.of_eq (by first | rfl | with_unfolding_all rfl)) (by first | rfl | decide | with_unfolding_all rfl) (fun s₁ IC => ?_) rfl rfl rfl
  obtain ⟨h₁, tk₁, rfl⟩ := IC.toInCall.same
  have k : ∀ b o, s.heap.get? b = some o → h₁.get? b = some o := IC.toInCall.keep
  have hn := IC.toInCall.ns
  have hxL : s.heap.objs.size ≠ x := Nat.ne_of_gt (Heap.lt_size hx)
  have X₁ : K.In h₁ := X.keeps k
  have hx₁ := k _ _ hx
  -- self.by = by
  show wpAny _ _ (execs _ _) _ _ _
  refine wpAny_execs_cons (plainObj_wpAny_Assign_Attribute ?_)
  refine ldC (v := v) hn (by first | rfl | with_unfolding_all rfl | kernel_rfl) (ldC (v := .ref x) hn (by first | rfl | with_unfolding_all rfl | kernel_rfl) ?_)
  refine set_plain X₁ (ox := excO C t0) (od := none) ⟨hx₁, rfl, rfl, trivial⟩ T.sa ?_
  refine Gd.osaX (fun self => F.store_ValueError.passes self) (by decide +kernel) X₁ hx₁ hcl (show excTail exTl (.ref C :: bm) = true from hbm) rfl T.noN (fun h₃ tk₃ dx k₃ dn dne hx₃ hn₃ => ?_)
  show wpAny _ _ (execs _ _) _ _ _
  have z : s.heap.objs.size < h₁.objs.size := hn.lt
  exact wpAny_execs_nil (hq h₃ tk₃ dx ⟨fun b o hb e => k₃ b o hb (k b o e), hx₃, Nat.le_of_lt (Nat.lt_of_lt_of_le z dn), dne, hn₃⟩)
theorem c_made (T : BadTargetsTxt K mg C fI) {v : Value} (X : K.In s.heap) (hlim : s.heap.NoLimit) (hroom : A.depth + 1 < recursionLimit)
    (hq : ∀ h' tk e d, Gd.OwnMade "value" s.heap h' e C d v → R (.ok (.ret (.ref e))) { s with heap := h', toks := tk }) :
    codeAny (model prog w) A (.call (.ref C) ⟨[v], []⟩) R s := by
  obtain ⟨nm, q, N, bs, bm, sn, sub, ab, col, dd, k0, k1, k2, k3, k5, hC, hbm⟩ := T.cls
  obtain ⟨hp, g, dr, tk, os⟩ := s
  have k : ∀ b o, hp.get? b = some o → ((hp.push (kdv_tup [v])).push (excO C hp.objs.size)).get? b = some o := fun b o e => Heap.get?_push_of_some _ (Heap.get?_push_of_some _ e)
  have hget : ((hp.push (kdv_tup [v])).push (excO C hp.objs.size)).get? (hp.objs.size + 1) = some (excO C hp.objs.size) := by heap_get
  have hnx : K.lookup (hp.objs.size + 1) = none := by
    cases e : K.lookup (hp.objs.size + 1) with
    | none => rfl
    | some o =>
      have z : hp.get? (hp.objs.size + 1) = some o := X _ _ e
      exact absurd (Nat.lt_of_succ_lt (Heap.lt_size z)) (Nat.lt_irrefl _)
  refine call_own F.excBase_ValueError (fun X => excTail_contains X bm hbm) (X _ _ hC) (looks_findIn X T.iC) (fun self => bind_fn X self T.tC) (one_size v) ?_
  refine c_init (s := ⟨(hp.push (kdv_tup [v])).push (excO C hp.objs.size), g, dr, tk, os⟩) T (X.keeps k) (hlim.keeps k) hget hnx ?_ fun h' tk' dx ⟨k', hx, dn, dne, hns⟩ => ?_
  · show A.depth + 1 < recursionLimit
    exact hroom
  · have old : ∀ b o, hp.get? b = some o → h'.get? b = some o := fun b o e => k' b o (Nat.ne_of_lt (Nat.lt_succ_of_lt (Heap.lt_size e))) (k b o e)
    have z : hp.objs.size + 1 + 1 ≤ dx := by
      first
        | (simpa only [Heap.size_push] using dn)
        | exact dn
        | (have q := dn; rw [Heap.size_push, Heap.size_push] at q; exact q)
    exact ⟨rfl, hq h' tk' (hp.objs.size + 1) dx ⟨old, Nat.le_succ _, ⟨_, _, hx, rfl, rfl, rfl⟩, Nat.le_trans (Nat.le_trans (Nat.le_succ _) (Nat.le_succ _)) z, dne, hns⟩⟩
end
end BadTargetsX
end PySem
namespace PySem
namespace NoPropertyX
open PySem.W PySem.Calls PyProof.Rows PySem.HandSPX
abbrev exTl : List Value := [.type "ValueError", .type "Exception", .type "BaseException", .type "object"]
/-! ### the text of __init__ -/
def iA (p1 p2 : Pos) : Arguments := { posonlyargs := [], args := [{ arg := "self", annotation := none, pos := p1 }, { arg := "name", annotation := none, pos := p2 }], vararg := none, kwonlyargs := [], kw_defaults := [], kwarg := none, defaults := [] }
def iB (q1 q2 q3 q4 : Pos) : List Stmt := [.Assign [.Attribute (.Name "self" q1) "name" q2] (.Name "name" q3) q4]
def iS : Scope := { kind := .function, names := [(PySem.Str.ofString "self", .local), (PySem.Str.ofString "name", .local)], isGenerator := false, isCoroutine := false, more := [] }
/-- what the written part says of Low, at C, and of its __init__, at fI -/
structure NoPropertyTxt (K : Frag) (mg : Str → Option Value) (C fI : Addr) : Prop where
  gC : mg "NoProperty" = some (.ref C)
  cls : ∃ nm q N bs bm sn sub ab col dd k0 k1 k2 k3 k5, K.lookup C = some (excClassObj nm q C N bs bm true sn sub ab col dd k0 k1 k2 k3 k5 "ValueError.__new__") ∧ excTail exTl bm = true
  sa : findIn K (.ref C) "__setattr__" = some (some (.builtin "object.__setattr__"))
  ga : findIn K (.ref C) "__getattribute__" = some (some (.builtin "BaseException.__getattribute__"))
  gg : findIn K (.ref C) "__getattr__" = some none
  noN : findIn K (.ref C) "name" = some none
  iC : findIn K (.ref C) "__init__" = some (some (.ref fI))
  tC : typeIn K (.ref fI) = some (.type "function")
  kC : keepIn K (.ref C) = true
  exC : subIn K (.ref C) (.type "BaseException") = some true
  tyC : typeIn K (.ref C) = some (.type "type")
  hdC : hasDictIn K C = true
  te : exmOne K (.ref C) (.ref C) = some true
  fn : ∃ (oc : Value) (od : Option Addr) (doc pm : Value) (an : Option Addr) (cdv ct : Value) (osl : Array (Option Value)) (p1 p2 q1 q2 q3 q4 : Pos),
    K.lookup fI = some ⟨oc, od, .func (fnOf "__init__" "NoProperty.__init__" (iA p1 p2) (iB q1 q2 q3 q4) iS .none .none doc pm an cdv ct), osl⟩ ∧ codeIn K cdv "NoProperty.__init__" = true
theorem one_size (v : Value) : [v].length ≤ sizeLine := by
  rw [sizeLine_eq]
  exact (by decide : 1 ≤ 16777216)
theorem kept_but {K : Frag} {h h' : Heap} {x : Addr} (X : K.In h) (hx : K.lookup x = none) (k : ∀ b o, b ≠ x → h.get? b = some o → h'.get? b = some o) : K.In h' := fun a o e =>
  k a o (fun z => by rw [z, hx] at e; cases e) (X a o e)
theorem ldC {M : Model} {s : Shared} {name : Str} {scope : Scope} {L a : Addr} {cd : Value} {m : Str → Option Value} {x : Str} {pos : Pos} {v : Value} {Q : Value → Shared → Prop} {A : Around} {E : Value → Shared → Prop} (hn : s.heap.Ns L m) (hv : m x = some v) (h : Q v s)
    (hk : scope.kind = .function := by rfl) (hl : (envOfC name scope L a cd).kindOf x = some .local := by rfl) (hd : (x == ("__debug__" : Str)) = false := by decide) :
    wpAny M A (eval (.Name x pos) (envOfC name scope L a cd)) Q E s := wpAny_Name (wpAny_loadName_local hk hl hn hv h) hd
/-- what __init__ leaves of a fresh exception at x -/
structure InitEnd (h h' : Heap) (x C dx t1 : Addr) (v : Value) : Prop where
  keep : ∀ b o, b ≠ x → h.get? b = some o → h'.get? b = some o
  obj : h'.get? x = some { cls := .ref C, dict := some dx, data := .fields #[.ref t1, .none, .none, .none, .bool false, .none] }
  dbig : h.objs.size ≤ dx
  dne : dx ≠ x
  ns : h'.Ns1 dx (fun y => if y = "name" then some v else none)
section
variable {prog : Program} {w : World} {A : Around} {E : Value → Shared → Prop} {R : Result → Shared → Prop} {s : Shared} {K : Frag} {mg : Str → Option Value} {C fI : Addr}
theorem c_init (T : NoPropertyTxt K mg C fI) {x t0 : Addr} {v : Value} (X : K.In s.heap) (hlim : s.heap.NoLimit) (hx : s.heap.get? x = some (excO C t0)) (hnx : K.lookup x = none) (hroom : A.depth < recursionLimit)
    (hq : ∀ h' tk dx, InitEnd s.heap h' x C dx t0 v → R (.ok (.ret .none)) { s with heap := h', toks := tk }) :
    codeAny (model prog w) A (.call (.ref fI) ⟨[.ref x, v], []⟩) R s := by
  obtain ⟨oc, od, doc, pm, an, cdv, ct, osl, p1, p2, q1, q2, q3, q4, ho, hcd⟩ := T.fn
  obtain ⟨nm, q, N, bs, bm, sn, sub, ab, col, dd, k0, k1, k2, k3, k5, hC, hbm⟩ := T.cls
  have hcl : clsIn K C = some { name := nm, bases := bs, mro := .ref C :: bm, ns := N, qualname := q, hasDict := true, slotNames := sn, subclasses := sub, abstract := ab, collection := col, hasDel := false } := by unfold clsIn; rw [hC] <;> rfl
  refine Att.call_fn (binds := [("self", .ref x), ("name", v)]) X hlim ho hcd hroom (BindsTo.of_eq (by first | rfl | with_unfolding_all rfl)) (by first | rfl | decide | with_unfolding_all rfl) (fun s₁ IC => ?_) rfl rfl rfl
  obtain ⟨h₁, tk₁, rfl⟩ := IC.toInCall.same
  have k : ∀ b o, s.heap.get? b = some o → h₁.get? b = some o := IC.toInCall.keep
  have hn := IC.toInCall.ns
  have hxL : s.heap.objs.size ≠ x := Nat.ne_of_gt (Heap.lt_size hx)
  have X₁ : K.In h₁ := X.keeps k
  have hx₁ := k _ _ hx
  -- self.by = by
  show wpAny _ _ (execs _ _) _ _ _
  refine wpAny_execs_cons (plainObj_wpAny_Assign_Attribute ?_)
  refine ldC (v := v) hn (by first | rfl | with_unfolding_all rfl | kernel_rfl) (ldC (v := .ref x) hn (by first | rfl | with_unfolding_all rfl | kernel_rfl) ?_)
  refine set_plain X₁ (ox := excO C t0) (od := none) ⟨hx₁, rfl, rfl, trivial⟩ T.sa ?_
  refine Gd.osaX (fun self => F.store_ValueError.passes self) (by decide +kernel) X₁ hx₁ hcl (show excTail exTl (.ref C :: bm) = true from hbm) rfl T.noN (fun h₃ tk₃ dx k₃ dn dne hx₃ hn₃ => ?_)
  show wpAny _ _ (execs _ _) _ _ _
  have z : s.heap.objs.size < h₁.objs.size := hn.lt
  exact wpAny_execs_nil (hq h₃ tk₃ dx ⟨fun b o hb e => k₃ b o hb (k b o e), hx₃, Nat.le_of_lt (Nat.lt_of_lt_of_le z dn), dne, hn₃⟩)
theorem c_made (T : NoPropertyTxt K mg C fI) {v : Value} (X : K.In s.heap) (hlim : s.heap.NoLimit) (hroom : A.depth + 1 < recursionLimit)
    (hq : ∀ h' tk e d, Gd.OwnMade "name" s.heap h' e C d v → R (.ok (.ret (.ref e))) { s with heap := h', toks := tk }) :
    codeAny (model prog w) A (.call (.ref C) ⟨[v], []⟩) R s := by
  obtain ⟨nm, q, N, bs, bm, sn, sub, ab, col, dd, k0, k1, k2, k3, k5, hC, hbm⟩ := T.cls
  obtain ⟨hp, g, dr, tk, os⟩ := s
  have k : ∀ b o, hp.get? b = some o → ((hp.push (kdv_tup [v])).push (excO C hp.objs.size)).get? b = some o := fun b o e => Heap.get?_push_of_some _ (Heap.get?_push_of_some _ e)
  have hget : ((hp.push (kdv_tup [v])).push (excO C hp.objs.size)).get? (hp.objs.size + 1) = some (excO C hp.objs.size) := by heap_get
  have hnx : K.lookup (hp.objs.size + 1) = none := by
    cases e : K.lookup (hp.objs.size + 1) with
    | none => rfl
    | some o =>
      have z : hp.get? (hp.objs.size + 1) = some o := X _ _ e
      exact absurd (Nat.lt_of_succ_lt (Heap.lt_size z)) (Nat.lt_irrefl _)
  refine call_own F.excBase_ValueError (fun X => excTail_contains X bm hbm) (X _ _ hC) (looks_findIn X T.iC) (fun self => bind_fn X self T.tC) (one_size v) ?_
  refine c_init (s := ⟨(hp.push (kdv_tup [v])).push (excO C hp.objs.size), g, dr, tk, os⟩) T (X.keeps k) (hlim.keeps k) hget hnx ?_ fun h' tk' dx ⟨k', hx, dn, dne, hns⟩ => ?_
  · show A.depth + 1 < recursionLimit
    exact hroom
  · have old : ∀ b o, hp.get? b = some o → h'.get? b = some o := fun b o e => k' b o (Nat.ne_of_lt (Nat.lt_succ_of_lt (Heap.lt_size e))) (k b o e)
    have z : hp.objs.size + 1 + 1 ≤ dx := by
      first
        | (simpa only [Heap.size_push] using dn)
        | exact dn
        | (have q := dn; rw [Heap.size_push, Heap.size_push] at q; exact q)
    exact ⟨rfl, hq h' tk' (hp.objs.size + 1) dx ⟨old, Nat.le_succ _, ⟨_, _, hx, rfl, rfl, rfl⟩, Nat.le_trans (Nat.le_trans (Nat.le_succ _) (Nat.le_succ _)) z, dne, hns⟩⟩
end
end NoPropertyX
end PySem
namespace PySem
namespace BadWishX
open PySem.W PySem.Calls PyProof.Rows PySem.HandSPX
abbrev exTl : List Value := [.type "ValueError", .type "Exception", .type "BaseException", .type "object"]
/-! ### the text of __init__ -/
def iA (p1 p2 : Pos) : Arguments := { posonlyargs := [], args := [{ arg := "self", annotation := none, pos := p1 }, { arg := "value", annotation := none, pos := p2 }], vararg := none, kwonlyargs := [], kw_defaults := [], kwarg := none, defaults := [] }
def iB (q1 q2 q3 q4 : Pos) : List Stmt := [.Assign [.Attribute (.Name "self" q1) "value" q2] (.Name "value" q3) q4]
def iS : Scope := { kind := .function, names := [(PySem.Str.ofString "self", .local), (PySem.Str.ofString "value", .local)], isGenerator := false, isCoroutine := false, more := [] }
/-- what the written part says of Low, at C, and of its __init__, at fI -/
structure BadWishTxt (K : Frag) (mg : Str → Option Value) (C fI : Addr) : Prop where
  gC : mg "BadWish" = some (.ref C)
  cls : ∃ nm q N bs bm sn sub ab col dd k0 k1 k2 k3 k5, K.lookup C = some (excClassObj nm q C N bs bm true sn sub ab col dd k0 k1 k2 k3 k5 "ValueError.__new__") ∧ excTail exTl bm = true
  sa : findIn K (.ref C) "__setattr__" = some (some (.builtin "object.__setattr__"))
  ga : findIn K (.ref C) "__getattribute__" = some (some (.builtin "BaseException.__getattribute__"))
  gg : findIn K (.ref C) "__getattr__" = some none
  noN : findIn K (.ref C) "value" = some none
  iC : findIn K (.ref C) "__init__" = some (some (.ref fI))
  tC : typeIn K (.ref fI) = some (.type "function")
  kC : keepIn K (.ref C) = true
  exC : subIn K (.ref C) (.type "BaseException") = some true
  tyC : typeIn K (.ref C) = some (.type "type")
  hdC : hasDictIn K C = true
  te : exmOne K (.ref C) (.ref C) = some true
  fn : ∃ (oc : Value) (od : Option Addr) (doc pm : Value) (an : Option Addr) (cdv ct : Value) (osl : Array (Option Value)) (p1 p2 q1 q2 q3 q4 : Pos),
    K.lookup fI = some ⟨oc, od, .func (fnOf "__init__" "BadWish.__init__" (iA p1 p2) (iB q1 q2 q3 q4) iS .none .none doc pm an cdv ct), osl⟩ ∧ codeIn K cdv "BadWish.__init__" = true
theorem one_size (v : Value) : [v].length ≤ sizeLine := by
  rw [sizeLine_eq]
  exact (by decide : 1 ≤ 16777216)
theorem kept_but {K : Frag} {h h' : Heap} {x : Addr} (X : K.In h) (hx : K.lookup x = none) (k : ∀ b o, b ≠ x → h.get? b = some o → h'.get? b = some o) : K.In h' := fun a o e =>
  k a o (fun z => by rw [z, hx] at e; cases e) (X a o e)
theorem ldC {M : Model} {s : Shared} {name : Str} {scope : Scope} {L a : Addr} {cd : Value} {m : Str → Option Value} {x : Str} {pos : Pos} {v : Value} {Q : Value → Shared → Prop} {A : Around} {E : Value → Shared → Prop} (hn : s.heap.Ns L m) (hv : m x = some v) (h : Q v s)
    (hk : scope.kind = .function := by rfl) (hl : (envOfC name scope L a cd).kindOf x = some .local := by rfl) (hd : (x == ("__debug__" : Str)) = false := by decide) :
    wpAny M A (eval (.Name x pos) (envOfC name scope L a cd)) Q E s := wpAny_Name (wpAny_loadName_local hk hl hn hv h) hd
/-- what __init__ leaves of a fresh exception at x -/
structure InitEnd (h h' : Heap) (x C dx t1 : Addr) (v : Value) : Prop where
  keep : ∀ b o, b ≠ x → h.get? b = some o → h'.get? b = some o
  obj : h'.get? x = some { cls := .ref C, dict := some dx, data := .fields #[.ref t1, .none, .none, .none, .bool false, .none] }
  dbig : h.objs.size ≤ dx
  dne : dx ≠ x
  ns : h'.Ns1 dx (fun y => if y = "value" then some v else none)
section
variable {prog : Program} {w : World} {A : Around} {E : Value → Shared → Prop} {R : Result → Shared → Prop} {s : Shared} {K : Frag} {mg : Str → Option Value} {C fI : Addr}
theorem c_init (T : BadWishTxt K mg C fI) {x t0 : Addr} {v : Value} (X : K.In s.heap) (hlim : s.heap.NoLimit) (hx : s.heap.get? x = some (excO C t0)) (hnx : K.lookup x = none) (hroom : A.depth < recursionLimit)
    (hq : ∀ h' tk dx, InitEnd s.heap h' x C dx t0 v → R (.ok (.ret .none)) { s with heap := h', toks := tk }) :
    codeAny (model prog w) A (.call (.ref fI) ⟨[.ref x, v], []⟩) R s := by
  obtain ⟨oc, od, doc, pm, an, cdv, ct, osl, p1, p2, q1, q2, q3, q4, ho, hcd⟩ := T.fn
  obtain ⟨nm, q, N, bs, bm, sn, sub, ab, col, dd, k0, k1, k2, k3, k5, hC, hbm⟩ := T.cls
  have hcl : clsIn K C = some { name := nm, bases := bs, mro := .ref C :: bm, ns := N, qualname := q, hasDict := true, slotNames := sn, subclasses := sub, abstract := ab, collection := col, hasDel := false } := by unfold clsIn; rw [hC] <;> rfl
  refine Att.call_fn (binds := [("self", .ref x), ("value", v)]) X hlim ho hcd hroom (BindsTo.of_eq (by first | rfl | with_unfolding_all rfl)) (by first | rfl | decide | with_unfolding_all rfl) (fun s₁ IC => ?_) rfl rfl rfl
  obtain ⟨h₁, tk₁, rfl⟩ := IC.toInCall.same
  have k : ∀ b o, s.heap.get? b = some o → h₁.get? b = some o := IC.toInCall.keep
  have hn := IC.toInCall.ns
  have hxL : s.heap.objs.size ≠ x := Nat.ne_of_gt (Heap.lt_size hx)
  have X₁ : K.In h₁ := X.keeps k
  have hx₁ := k _ _ hx
  -- self.by = by
  show wpAny _ _ (execs _ _) _ _ _
  refine wpAny_execs_cons (plainObj_wpAny_Assign_Attribute ?_)
  refine ldC (v := v) hn (by first | rfl | with_unfolding_all rfl | kernel_rfl) (ldC (v := .ref x) hn (by first | rfl | with_unfolding_all rfl | kernel_rfl) ?_)
  refine set_plain X₁ (ox := excO C t0) (od := none) ⟨hx₁, rfl, rfl, trivial⟩ T.sa ?_
  refine Gd.osaX (fun self => F.store_ValueError.passes self) (by decide +kernel) X₁ hx₁ hcl (show excTail exTl (.ref C :: bm) = true from hbm) rfl T.noN (fun h₃ tk₃ dx k₃ dn dne hx₃ hn₃ => ?_)
  show wpAny _ _ (execs _ _) _ _ _
  have z : s.heap.objs.size < h₁.objs.size := hn.lt
  exact wpAny_execs_nil (hq h₃ tk₃ dx ⟨fun b o hb e => k₃ b o hb (k b o e), hx₃, Nat.le_of_lt (Nat.lt_of_lt_of_le z dn), dne, hn₃⟩)
theorem c_made (T : BadWishTxt K mg C fI) {v : Value} (X : K.In s.heap) (hlim : s.heap.NoLimit) (hroom : A.depth + 1 < recursionLimit)
    (hq : ∀ h' tk e d, Gd.OwnMade "value" s.heap h' e C d v → R (.ok (.ret (.ref e))) { s with heap := h', toks := tk }) :
    codeAny (model prog w) A (.call (.ref C) ⟨[v], []⟩) R s := by
  obtain ⟨nm, q, N, bs, bm, sn, sub, ab, col, dd, k0, k1, k2, k3, k5, hC, hbm⟩ := T.cls
  obtain ⟨hp, g, dr, tk, os⟩ := s
  have k : ∀ b o, hp.get? b = some o → ((hp.push (kdv_tup [v])).push (excO C hp.objs.size)).get? b = some o := fun b o e => Heap.get?_push_of_some _ (Heap.get?_push_of_some _ e)
  have hget : ((hp.push (kdv_tup [v])).push (excO C hp.objs.size)).get? (hp.objs.size + 1) = some (excO C hp.objs.size) := by heap_get
  have hnx : K.lookup (hp.objs.size + 1) = none := by
    cases e : K.lookup (hp.objs.size + 1) with
    | none => rfl
    | some o =>
      have z : hp.get? (hp.objs.size + 1) = some o := X _ _ e
      exact absurd (Nat.lt_of_succ_lt (Heap.lt_size z)) (Nat.lt_irrefl _)
  refine call_own F.excBase_ValueError (fun X => excTail_contains X bm hbm) (X _ _ hC) (looks_findIn X T.iC) (fun self => bind_fn X self T.tC) (one_size v) ?_
  refine c_init (s := ⟨(hp.push (kdv_tup [v])).push (excO C hp.objs.size), g, dr, tk, os⟩) T (X.keeps k) (hlim.keeps k) hget hnx ?_ fun h' tk' dx ⟨k', hx, dn, dne, hns⟩ => ?_
  · show A.depth + 1 < recursionLimit
    exact hroom
  · have old : ∀ b o, hp.get? b = some o → h'.get? b = some o := fun b o e => k' b o (Nat.ne_of_lt (Nat.lt_succ_of_lt (Heap.lt_size e))) (k b o e)
    have z : hp.objs.size + 1 + 1 ≤ dx := by
      first
        | (simpa only [Heap.size_push] using dn)
        | exact dn
        | (have q := dn; rw [Heap.size_push, Heap.size_push] at q; exact q)
    exact ⟨rfl, hq h' tk' (hp.objs.size + 1) dx ⟨old, Nat.le_succ _, ⟨_, _, hx, rfl, rfl, rfl⟩, Nat.le_trans (Nat.le_trans (Nat.le_succ _) (Nat.le_succ _)) z, dne, hns⟩⟩
end
end BadWishX
end PySem
namespace PySem
namespace BadSizeX
open PySem.W PySem.Calls PyProof.Rows PySem.HandSPX
abbrev exTl : List Value := [.type "ValueError", .type "Exception", .type "BaseException", .type "object"]
/-! ### the text of __init__ -/
def iA (p1 p2 : Pos) : Arguments := { posonlyargs := [], args := [{ arg := "self", annotation := none, pos := p1 }, { arg := "value", annotation := none, pos := p2 }], vararg := none, kwonlyargs := [], kw_defaults := [], kwarg := none, defaults := [] }
def iB (q1 q2 q3 q4 : Pos) : List Stmt := [.Assign [.Attribute (.Name "self" q1) "value" q2] (.Name "value" q3) q4]
def iS : Scope := { kind := .function, names := [(PySem.Str.ofString "self", .local), (PySem.Str.ofString "value", .local)], isGenerator := false, isCoroutine := false, more := [] }
/-- what the written part says of Low, at C, and of its __init__, at fI -/
structure BadSizeTxt (K : Frag) (mg : Str → Option Value) (C fI : Addr) : Prop where
  gC : mg "BadSize" = some (.ref C)
  cls : ∃ nm q N bs bm sn sub ab col dd k0 k1 k2 k3 k5, K.lookup C = some (excClassObj nm q C N bs bm true sn sub ab col dd k0 k1 k2 k3 k5 "ValueError.__new__") ∧ excTail exTl bm = true
  sa : findIn K (.ref C) "__setattr__" = some (some (.builtin "object.__setattr__"))
  ga : findIn K (.ref C) "__getattribute__" = some (some (.builtin "BaseException.__getattribute__"))
  gg : findIn K (.ref C) "__getattr__" = some none
  noN : findIn K (.ref C) "value" = some none
  iC : findIn K (.ref C) "__init__" = some (some (.ref fI))
  tC : typeIn K (.ref fI) = some (.type "function")
  kC : keepIn K (.ref C) = true
  exC : subIn K (.ref C) (.type "BaseException") = some true
  tyC : typeIn K (.ref C) = some (.type "type")
  hdC : hasDictIn K C = true
  te : exmOne K (.ref C) (.ref C) = some true
  fn : ∃ (oc : Value) (od : Option Addr) (doc pm : Value) (an : Option Addr) (cdv ct : Value) (osl : Array (Option Value)) (p1 p2 q1 q2 q3 q4 : Pos),
    K.lookup fI = some ⟨oc, od, .func (fnOf "__init__" "BadSize.__init__" (iA p1 p2) (iB q1 q2 q3 q4) iS .none .none doc pm an cdv ct), osl⟩ ∧ codeIn K cdv "BadSize.__init__" = true
theorem one_size (v : Value) : [v].length ≤ sizeLine := by
  rw [sizeLine_eq]
  exact (by decide : 1 ≤ 16777216)
theorem kept_but {K : Frag} {h h' : Heap} {x : Addr} (X : K.In h) (hx : K.lookup x = none) (k : ∀ b o, b ≠ x → h.get? b = some o → h'.get? b = some o) : K.In h' := fun a o e =>
  k a o (fun z => by rw [z, hx] at e; cases e) (X a o e)
theorem ldC {M : Model} {s : Shared} {name : Str} {scope : Scope} {L a : Addr} {cd : Value} {m : Str → Option Value} {x : Str} {pos : Pos} {v : Value} {Q : Value → Shared → Prop} {A : Around} {E : Value → Shared → Prop} (hn : s.heap.Ns L m) (hv : m x = some v) (h : Q v s)
    (hk : scope.kind = .function := by rfl) (hl : (envOfC name scope L a cd).kindOf x = some .local := by rfl) (hd : (x == ("__debug__" : Str)) = false := by decide) :
    wpAny M A (eval (.Name x pos) (envOfC name scope L a cd)) Q E s := wpAny_Name (wpAny_loadName_local hk hl hn hv h) hd
/-- what __init__ leaves of a fresh exception at x -/
structure InitEnd (h h' : Heap) (x C dx t1 : Addr) (v : Value) : Prop where
  keep : ∀ b o, b ≠ x → h.get? b = some o → h'.get? b = some o
  obj : h'.get? x = some { cls := .ref C, dict := some dx, data := .fields #[.ref t1, .none, .none, .none, .bool false, .none] }
  dbig : h.objs.size ≤ dx
  dne : dx ≠ x
  ns : h'.Ns1 dx (fun y => if y = "value" then some v else none)
section
variable {prog : Program} {w : World} {A : Around} {E : Value → Shared → Prop} {R : Result → Shared → Prop} {s : Shared} {K : Frag} {mg : Str → Option Value} {C fI : Addr}
theorem c_init (T : BadSizeTxt K mg C fI) {x t0 : Addr} {v : Value} (X : K.In s.heap) (hlim : s.heap.NoLimit) (hx : s.heap.get? x = some (excO C t0)) (hnx : K.lookup x = none) (hroom : A.depth < recursionLimit)
    (hq : ∀ h' tk dx, InitEnd s.heap h' x C dx t0 v → R (.ok (.ret .none)) { s with heap := h', toks := tk }) :
    codeAny (model prog w) A (.call (.ref fI) ⟨[.ref x, v], []⟩) R s := by
  obtain ⟨oc, od, doc, pm, an, cdv, ct, osl, p1, p2, q1, q2, q3, q4, ho, hcd⟩ := T.fn
  obtain ⟨nm, q, N, bs, bm, sn, sub, ab, col, dd, k0, k1, k2, k3, k5, hC, hbm⟩ := T.cls
  have hcl : clsIn K C = some { name := nm, bases := bs, mro := .ref C :: bm, ns := N, qualname := q, hasDict := true, slotNames := sn, subclasses := sub, abstract := ab, collection := col, hasDel := false } := by unfold clsIn; rw [hC] <;> rfl
  refine Att.call_fn (binds := [("self", .ref x), ("value", v)]) X hlim ho hcd hroom (BindsTo.of_eq (by first | rfl | with_unfolding_all rfl)) (by first | rfl | decide | with_unfolding_all rfl) (fun s₁ IC => ?_) rfl rfl rfl
  obtain ⟨h₁, tk₁, rfl⟩ := IC.toInCall.same
  have k : ∀ b o, s.heap.get? b = some o → h₁.get? b = some o := IC.toInCall.keep
  have hn := IC.toInCall.ns
  have hxL : s.heap.objs.size ≠ x := Nat.ne_of_gt (Heap.lt_size hx)
  have X₁ : K.In h₁ := X.keeps k
  have hx₁ := k _ _ hx
  -- self.by = by
  show wpAny _ _ (execs _ _) _ _ _
  refine wpAny_execs_cons (plainObj_wpAny_Assign_Attribute ?_)
  refine ldC (v := v) hn (by first | rfl | with_unfolding_all rfl | kernel_rfl) (ldC (v := .ref x) hn (by first | rfl | with_unfolding_all rfl | kernel_rfl) ?_)
  refine set_plain X₁ (ox := excO C t0) (od := none) ⟨hx₁, rfl, rfl, trivial⟩ T.sa ?_
  refine Gd.osaX (fun self => F.store_ValueError.passes self) (by decide +kernel) X₁ hx₁ hcl (show excTail exTl (.ref C :: bm) = true from hbm) rfl T.noN (fun h₃ tk₃ dx k₃ dn dne hx₃ hn₃ => ?_)
  show wpAny _ _ (execs _ _) _ _ _
  have z : s.heap.objs.size < h₁.objs.size := hn.lt
  exact wpAny_execs_nil (hq h₃ tk₃ dx ⟨fun b o hb e => k₃ b o hb (k b o e), hx₃, Nat.le_of_lt (Nat.lt_of_lt_of_le z dn), dne, hn₃⟩)
theorem c_made (T : BadSizeTxt K mg C fI) {v : Value} (X : K.In s.heap) (hlim : s.heap.NoLimit) (hroom : A.depth + 1 < recursionLimit)
    (hq : ∀ h' tk e d, Gd.OwnMade "value" s.heap h' e C d v → R (.ok (.ret (.ref e))) { s with heap := h', toks := tk }) :
    codeAny (model prog w) A (.call (.ref C) ⟨[v], []⟩) R s := by
  obtain ⟨nm, q, N, bs, bm, sn, sub, ab, col, dd, k0, k1, k2, k3, k5, hC, hbm⟩ := T.cls
  obtain ⟨hp, g, dr, tk, os⟩ := s
  have k : ∀ b o, hp.get? b = some o → ((hp.push (kdv_tup [v])).push (excO C hp.objs.size)).get? b = some o := fun b o e => Heap.get?_push_of_some _ (Heap.get?_push_of_some _ e)
  have hget : ((hp.push (kdv_tup [v])).push (excO C hp.objs.size)).get? (hp.objs.size + 1) = some (excO C hp.objs.size) := by heap_get
  have hnx : K.lookup (hp.objs.size + 1) = none := by
    cases e : K.lookup (hp.objs.size + 1) with
    | none => rfl
    | some o =>
      have z : hp.get? (hp.objs.size + 1) = some o := X _ _ e
      exact absurd (Nat.lt_of_succ_lt (Heap.lt_size z)) (Nat.lt_irrefl _)
  refine call_own F.excBase_ValueError (fun X => excTail_contains X bm hbm) (X _ _ hC) (looks_findIn X T.iC) (fun self => bind_fn X self T.tC) (one_size v) ?_
  refine c_init (s := ⟨(hp.push (kdv_tup [v])).push (excO C hp.objs.size), g, dr, tk, os⟩) T (X.keeps k) (hlim.keeps k) hget hnx ?_ fun h' tk' dx ⟨k', hx, dn, dne, hns⟩ => ?_
  · show A.depth + 1 < recursionLimit
    exact hroom
  · have old : ∀ b o, hp.get? b = some o → h'.get? b = some o := fun b o e => k' b o (Nat.ne_of_lt (Nat.lt_succ_of_lt (Heap.lt_size e))) (k b o e)
    have z : hp.objs.size + 1 + 1 ≤ dx := by
      first
        | (simpa only [Heap.size_push] using dn)
        | exact dn
        | (have q := dn; rw [Heap.size_push, Heap.size_push] at q; exact q)
    exact ⟨rfl, hq h' tk' (hp.objs.size + 1) dx ⟨old, Nat.le_succ _, ⟨_, _, hx, rfl, rfl, rfl⟩, Nat.le_trans (Nat.le_trans (Nat.le_succ _) (Nat.le_succ _)) z, dne, hns⟩⟩
end
end BadSizeX
end PySem
namespace PySem
namespace NoClaimX
open PySem.W PySem.Calls PyProof.Rows PySem.HandSPX
abbrev exTl : List Value := [.type "ValueError", .type "Exception", .type "BaseException", .type "object"]
/-! ### the text of __init__ -/
def iA (p1 p2 : Pos) : Arguments := { posonlyargs := [], args := [{ arg := "self", annotation := none, pos := p1 }, { arg := "value", annotation := none, pos := p2 }], vararg := none, kwonlyargs := [], kw_defaults := [], kwarg := none, defaults := [] }
def iB (q1 q2 q3 q4 : Pos) : List Stmt := [.Assign [.Attribute (.Name "self" q1) "value" q2] (.Name "value" q3) q4]
def iS : Scope := { kind := .function, names := [(PySem.Str.ofString "self", .local), (PySem.Str.ofString "value", .local)], isGenerator := false, isCoroutine := false, more := [] }
/-- what the written part says of Low, at C, and of its __init__, at fI -/
structure NoClaimTxt (K : Frag) (mg : Str → Option Value) (C fI : Addr) : Prop where
  gC : mg "NoClaim" = some (.ref C)
  cls : ∃ nm q N bs bm sn sub ab col dd k0 k1 k2 k3 k5, K.lookup C = some (excClassObj nm q C N bs bm true sn sub ab col dd k0 k1 k2 k3 k5 "ValueError.__new__") ∧ excTail exTl bm = true
  sa : findIn K (.ref C) "__setattr__" = some (some (.builtin "object.__setattr__"))
  ga : findIn K (.ref C) "__getattribute__" = some (some (.builtin "BaseException.__getattribute__"))
  gg : findIn K (.ref C) "__getattr__" = some none
  noN : findIn K (.ref C) "value" = some none
  iC : findIn K (.ref C) "__init__" = some (some (.ref fI))
  tC : typeIn K (.ref fI) = some (.type "function")
  kC : keepIn K (.ref C) = true
  exC : subIn K (.ref C) (.type "BaseException") = some true
  tyC : typeIn K (.ref C) = some (.type "type")
  hdC : hasDictIn K C = true
  te : exmOne K (.ref C) (.ref C) = some true
  fn : ∃ (oc : Value) (od : Option Addr) (doc pm : Value) (an : Option Addr) (cdv ct : Value) (osl : Array (Option Value)) (p1 p2 q1 q2 q3 q4 : Pos),
    K.lookup fI = some ⟨oc, od, .func (fnOf "__init__" "NoClaim.__init__" (iA p1 p2) (iB q1 q2 q3 q4) iS .none .none doc pm an cdv ct), osl⟩ ∧ codeIn K cdv "NoClaim.__init__" = true
theorem one_size (v : Value) : [v].length ≤ sizeLine := by
  rw [sizeLine_eq]
  exact (by decide : 1 ≤ 16777216)
theorem kept_but {K : Frag} {h h' : Heap} {x : Addr} (X : K.In h) (hx : K.lookup x = none) (k : ∀ b o, b ≠ x → h.get? b = some o → h'.get? b = some o) : K.In h' := fun a o e =>
  k a o (fun z => by rw [z, hx] at e; cases e) (X a o e)
theorem ldC {M : Model} {s : Shared} {name : Str} {scope : Scope} {L a : Addr} {cd : Value} {m : Str → Option Value} {x : Str} {pos : Pos} {v : Value} {Q : Value → Shared → Prop} {A : Around} {E : Value → Shared → Prop} (hn : s.heap.Ns L m) (hv : m x = some v) (h : Q v s)
    (hk : scope.kind = .function := by rfl) (hl : (envOfC name scope L a cd).kindOf x = some .local := by rfl) (hd : (x == ("__debug__" : Str)) = false := by decide) :
    wpAny M A (eval (.Name x pos) (envOfC name scope L a cd)) Q E s := wpAny_Name (wpAny_loadName_local hk hl hn hv h) hd
/-- what __init__ leaves of a fresh exception at x -/
structure InitEnd (h h' : Heap) (x C dx t1 : Addr) (v : Value) : Prop where
  keep : ∀ b o, b ≠ x → h.get? b = some o → h'.get? b = some o
  obj : h'.get? x = some { cls := .ref C, dict := some dx, data := .fields #[.ref t1, .none, .none, .none, .bool false, .none] }
  dbig : h.objs.size ≤ dx
  dne : dx ≠ x
  ns : h'.Ns1 dx (fun y => if y = "value" then some v else none)
section
variable {prog : Program} {w : World} {A : Around} {E : Value → Shared → Prop} {R : Result → Shared → Prop} {s : Shared} {K : Frag} {mg : Str → Option Value} {C fI : Addr}
theorem c_init (T : NoClaimTxt K mg C fI) {x t0 : Addr} {v : Value} (X : K.In s.heap) (hlim : s.heap.NoLimit) (hx : s.heap.get? x = some (excO C t0)) (hnx : K.lookup x = none) (hroom : A.depth < recursionLimit)
    (hq : ∀ h' tk dx, InitEnd s.heap h' x C dx t0 v → R (.ok (.ret .none)) { s with heap := h', toks := tk }) :
    codeAny (model prog w) A (.call (.ref fI) ⟨[.ref x, v], []⟩) R s := by
  obtain ⟨oc, od, doc, pm, an, cdv, ct, osl, p1, p2, q1, q2, q3, q4, ho, hcd⟩ := T.fn
  obtain ⟨nm, q, N, bs, bm, sn, sub, ab, col, dd, k0, k1, k2, k3, k5, hC, hbm⟩ := T.cls
  have hcl : clsIn K C = some { name := nm, bases := bs, mro := .ref C :: bm, ns := N, qualname := q, hasDict := true, slotNames := sn, subclasses := sub, abstract := ab, collection := col, hasDel := false } := by unfold clsIn; rw [hC] <;> rfl
  refine Att.call_fn (binds := [("self", .ref x), ("value", v)]) X hlim ho hcd hroom (BindsTo.of_eq (by first | rfl | with_unfolding_all rfl)) (by first | rfl | decide | with_unfolding_all rfl) (fun s₁ IC => ?_) rfl rfl rfl
  obtain ⟨h₁, tk₁, rfl⟩ := IC.toInCall.same
  have k : ∀ b o, s.heap.get? b = some o → h₁.get? b = some o := IC.toInCall.keep
  have hn := IC.toInCall.ns
  have hxL : s.heap.objs.size ≠ x := Nat.ne_of_gt (Heap.lt_size hx)
  have X₁ : K.In h₁ := X.keeps k
  have hx₁ := k _ _ hx
  -- self.by = by
  show wpAny _ _ (execs _ _) _ _ _
  refine wpAny_execs_cons (plainObj_wpAny_Assign_Attribute ?_)
  refine ldC (v := v) hn (by first | rfl | with_unfolding_all rfl | kernel_rfl) (ldC (v := .ref x) hn (by first | rfl | with_unfolding_all rfl | kernel_rfl) ?_)
  refine set_plain X₁ (ox := excO C t0) (od := none) ⟨hx₁, rfl, rfl, trivial⟩ T.sa ?_
  refine Gd.osaX (fun self => F.store_ValueError.passes self) (by decide +kernel) X₁ hx₁ hcl (show excTail exTl (.ref C :: bm) = true from hbm) rfl T.noN (fun h₃ tk₃ dx k₃ dn dne hx₃ hn₃ => ?_)
  show wpAny _ _ (execs _ _) _ _ _
  have z : s.heap.objs.size < h₁.objs.size := hn.lt
  exact wpAny_execs_nil (hq h₃ tk₃ dx ⟨fun b o hb e => k₃ b o hb (k b o e), hx₃, Nat.le_of_lt (Nat.lt_of_lt_of_le z dn), dne, hn₃⟩)
theorem c_made (T : NoClaimTxt K mg C fI) {v : Value} (X : K.In s.heap) (hlim : s.heap.NoLimit) (hroom : A.depth + 1 < recursionLimit)
    (hq : ∀ h' tk e d, Gd.OwnMade "value" s.heap h' e C d v → R (.ok (.ret (.ref e))) { s with heap := h', toks := tk }) :
    codeAny (model prog w) A (.call (.ref C) ⟨[v], []⟩) R s := by
  obtain ⟨nm, q, N, bs, bm, sn, sub, ab, col, dd, k0, k1, k2, k3, k5, hC, hbm⟩ := T.cls
  obtain ⟨hp, g, dr, tk, os⟩ := s
  have k : ∀ b o, hp.get? b = some o → ((hp.push (kdv_tup [v])).push (excO C hp.objs.size)).get? b = some o := fun b o e => Heap.get?_push_of_some _ (Heap.get?_push_of_some _ e)
  have hget : ((hp.push (kdv_tup [v])).push (excO C hp.objs.size)).get? (hp.objs.size + 1) = some (excO C hp.objs.size) := by heap_get
  have hnx : K.lookup (hp.objs.size + 1) = none := by
    cases e : K.lookup (hp.objs.size + 1) with
    | none => rfl
    | some o =>
      have z : hp.get? (hp.objs.size + 1) = some o := X _ _ e
      exact absurd (Nat.lt_of_succ_lt (Heap.lt_size z)) (Nat.lt_irrefl _)
  refine call_own F.excBase_ValueError (fun X => excTail_contains X bm hbm) (X _ _ hC) (looks_findIn X T.iC) (fun self => bind_fn X self T.tC) (one_size v) ?_
  refine c_init (s := ⟨(hp.push (kdv_tup [v])).push (excO C hp.objs.size), g, dr, tk, os⟩) T (X.keeps k) (hlim.keeps k) hget hnx ?_ fun h' tk' dx ⟨k', hx, dn, dne, hns⟩ => ?_
  · show A.depth + 1 < recursionLimit
    exact hroom
  · have old : ∀ b o, hp.get? b = some o → h'.get? b = some o := fun b o e => k' b o (Nat.ne_of_lt (Nat.lt_succ_of_lt (Heap.lt_size e))) (k b o e)
    have z : hp.objs.size + 1 + 1 ≤ dx := by
      first
        | (simpa only [Heap.size_push] using dn)
        | exact dn
        | (have q := dn; rw [Heap.size_push, Heap.size_push] at q; exact q)
    exact ⟨rfl, hq h' tk' (hp.objs.size + 1) dx ⟨old, Nat.le_succ _, ⟨_, _, hx, rfl, rfl, rfl⟩, Nat.le_trans (Nat.le_trans (Nat.le_succ _) (Nat.le_succ _)) z, dne, hns⟩⟩
end
end NoClaimX
end PySem
namespace PySem
namespace ContradictionX
open PySem.W PySem.Calls PyProof.Rows PySem.HandSPX
abbrev exTl : List Value := [.type "ValueError", .type "Exception", .type "BaseException", .type "object"]
/-! ### the text of __init__ -/
def iA (p1 p2 : Pos) : Arguments := { posonlyargs := [], args := [{ arg := "self", annotation := none, pos := p1 }, { arg := "ring", annotation := none, pos := p2 }], vararg := none, kwonlyargs := [], kw_defaults := [], kwarg := none, defaults := [] }
def iB (q1 q2 q3 q4 : Pos) : List Stmt := [.Assign [.Attribute (.Name "self" q1) "ring" q2] (.Name "ring" q3) q4]
def iS : Scope := { kind := .function, names := [(PySem.Str.ofString "self", .local), (PySem.Str.ofString "ring", .local)], isGenerator := false, isCoroutine := false, more := [] }
/-- what the written part says of Low, at C, and of its __init__, at fI -/
structure ContradictionTxt (K : Frag) (mg : Str → Option Value) (C fI : Addr) : Prop where
  gC : mg "Contradiction" = some (.ref C)
  cls : ∃ nm q N bs bm sn sub ab col dd k0 k1 k2 k3 k5, K.lookup C = some (excClassObj nm q C N bs bm true sn sub ab col dd k0 k1 k2 k3 k5 "ValueError.__new__") ∧ excTail exTl bm = true
  sa : findIn K (.ref C) "__setattr__" = some (some (.builtin "object.__setattr__"))
  ga : findIn K (.ref C) "__getattribute__" = some (some (.builtin "BaseException.__getattribute__"))
  gg : findIn K (.ref C) "__getattr__" = some none
  noN : findIn K (.ref C) "ring" = some none
  iC : findIn K (.ref C) "__init__" = some (some (.ref fI))
  tC : typeIn K (.ref fI) = some (.type "function")
  kC : keepIn K (.ref C) = true
  exC : subIn K (.ref C) (.type "BaseException") = some true
  tyC : typeIn K (.ref C) = some (.type "type")
  hdC : hasDictIn K C = true
  te : exmOne K (.ref C) (.ref C) = some true
  fn : ∃ (oc : Value) (od : Option Addr) (doc pm : Value) (an : Option Addr) (cdv ct : Value) (osl : Array (Option Value)) (p1 p2 q1 q2 q3 q4 : Pos),
    K.lookup fI = some ⟨oc, od, .func (fnOf "__init__" "Contradiction.__init__" (iA p1 p2) (iB q1 q2 q3 q4) iS .none .none doc pm an cdv ct), osl⟩ ∧ codeIn K cdv "Contradiction.__init__" = true
theorem one_size (v : Value) : [v].length ≤ sizeLine := by
  rw [sizeLine_eq]
  exact (by decide : 1 ≤ 16777216)
theorem kept_but {K : Frag} {h h' : Heap} {x : Addr} (X : K.In h) (hx : K.lookup x = none) (k : ∀ b o, b ≠ x → h.get? b = some o → h'.get? b = some o) : K.In h' := fun a o e =>
  k a o (fun z => by rw [z, hx] at e; cases e) (X a o e)
theorem ldC {M : Model} {s : Shared} {name : Str} {scope : Scope} {L a : Addr} {cd : Value} {m : Str → Option Value} {x : Str} {pos : Pos} {v : Value} {Q : Value → Shared → Prop} {A : Around} {E : Value → Shared → Prop} (hn : s.heap.Ns L m) (hv : m x = some v) (h : Q v s)
    (hk : scope.kind = .function := by rfl) (hl : (envOfC name scope L a cd).kindOf x = some .local := by rfl) (hd : (x == ("__debug__" : Str)) = false := by decide) :
    wpAny M A (eval (.Name x pos) (envOfC name scope L a cd)) Q E s := wpAny_Name (wpAny_loadName_local hk hl hn hv h) hd
/-- what __init__ leaves of a fresh exception at x -/
structure InitEnd (h h' : Heap) (x C dx t1 : Addr) (v : Value) : Prop where
  keep : ∀ b o, b ≠ x → h.get? b = some o → h'.get? b = some o
  obj : h'.get? x = some { cls := .ref C, dict := some dx, data := .fields #[.ref t1, .none, .none, .none, .bool false, .none] }
  dbig : h.objs.size ≤ dx
  dne : dx ≠ x
  ns : h'.Ns1 dx (fun y => if y = "ring" then some v else none)
section
variable {prog : Program} {w : World} {A : Around} {E : Value → Shared → Prop} {R : Result → Shared → Prop} {s : Shared} {K : Frag} {mg : Str → Option Value} {C fI : Addr}
theorem c_init (T : ContradictionTxt K mg C fI) {x t0 : Addr} {v : Value} (X : K.In s.heap) (hlim : s.heap.NoLimit) (hx : s.heap.get? x = some (excO C t0)) (hnx : K.lookup x = none) (hroom : A.depth < recursionLimit)
    (hq : ∀ h' tk dx, InitEnd s.heap h' x C dx t0 v → R (.ok (.ret .none)) { s with heap := h', toks := tk }) :
    codeAny (model prog w) A (.call (.ref fI) ⟨[.ref x, v], []⟩) R s := by
  obtain ⟨oc, od, doc, pm, an, cdv, ct, osl, p1, p2, q1, q2, q3, q4, ho, hcd⟩ := T.fn
  obtain ⟨nm, q, N, bs, bm, sn, sub, ab, col, dd, k0, k1, k2, k3, k5, hC, hbm⟩ := T.cls
  have hcl : clsIn K C = some { name := nm, bases := bs, mro := .ref C :: bm, ns := N, qualname := q, hasDict := true, slotNames := sn, subclasses := sub, abstract := ab, collection := col, hasDel := false } := by unfold clsIn; rw [hC] <;> rfl
  refine Att.call_fn (binds := [("self", .ref x), ("ring", v)]) X hlim ho hcd hroom (BindsTo.of_eq (by first | rfl | with_unfolding_all rfl)) (by first | rfl | decide | with_unfolding_all rfl) (fun s₁ IC => ?_) rfl rfl rfl
  obtain ⟨h₁, tk₁, rfl⟩ := IC.toInCall.same
  have k : ∀ b o, s.heap.get? b = some o → h₁.get? b = some o := IC.toInCall.keep
  have hn := IC.toInCall.ns
  have hxL : s.heap.objs.size ≠ x := Nat.ne_of_gt (Heap.lt_size hx)
  have X₁ : K.In h₁ := X.keeps k
  have hx₁ := k _ _ hx
  -- self.by = by
  show wpAny _ _ (execs _ _) _ _ _
  refine wpAny_execs_cons (plainObj_wpAny_Assign_Attribute ?_)
  refine ldC (v := v) hn (by first | rfl | with_unfolding_all rfl | kernel_rfl) (ldC (v := .ref x) hn (by first | rfl | with_unfolding_all rfl | kernel_rfl) ?_)
  refine set_plain X₁ (ox := excO C t0) (od := none) ⟨hx₁, rfl, rfl, trivial⟩ T.sa ?_
  refine Gd.osaX (fun self => F.store_ValueError.passes self) (by decide +kernel) X₁ hx₁ hcl (show excTail exTl (.ref C :: bm) = true from hbm) rfl T.noN (fun h₃ tk₃ dx k₃ dn dne hx₃ hn₃ => ?_)
  show wpAny _ _ (execs _ _) _ _ _
  have z : s.heap.objs.size < h₁.objs.size := hn.lt
  exact wpAny_execs_nil (hq h₃ tk₃ dx ⟨fun b o hb e => k₃ b o hb (k b o e), hx₃, Nat.le_of_lt (Nat.lt_of_lt_of_le z dn), dne, hn₃⟩)
theorem c_made (T : ContradictionTxt K mg C fI) {v : Value} (X : K.In s.heap) (hlim : s.heap.NoLimit) (hroom : A.depth + 1 < recursionLimit)
    (hq : ∀ h' tk e d, Gd.OwnMade "ring" s.heap h' e C d v → R (.ok (.ret (.ref e))) { s with heap := h', toks := tk }) :
    codeAny (model prog w) A (.call (.ref C) ⟨[v], []⟩) R s := by
  obtain ⟨nm, q, N, bs, bm, sn, sub, ab, col, dd, k0, k1, k2, k3, k5, hC, hbm⟩ := T.cls
  obtain ⟨hp, g, dr, tk, os⟩ := s
  have k : ∀ b o, hp.get? b = some o → ((hp.push (kdv_tup [v])).push (excO C hp.objs.size)).get? b = some o := fun b o e => Heap.get?_push_of_some _ (Heap.get?_push_of_some _ e)
  have hget : ((hp.push (kdv_tup [v])).push (excO C hp.objs.size)).get? (hp.objs.size + 1) = some (excO C hp.objs.size) := by heap_get
  have hnx : K.lookup (hp.objs.size + 1) = none := by
    cases e : K.lookup (hp.objs.size + 1) with
    | none => rfl
    | some o =>
      have z : hp.get? (hp.objs.size + 1) = some o := X _ _ e
      exact absurd (Nat.lt_of_succ_lt (Heap.lt_size z)) (Nat.lt_irrefl _)
  refine call_own F.excBase_ValueError (fun X => excTail_contains X bm hbm) (X _ _ hC) (looks_findIn X T.iC) (fun self => bind_fn X self T.tC) (one_size v) ?_
  refine c_init (s := ⟨(hp.push (kdv_tup [v])).push (excO C hp.objs.size), g, dr, tk, os⟩) T (X.keeps k) (hlim.keeps k) hget hnx ?_ fun h' tk' dx ⟨k', hx, dn, dne, hns⟩ => ?_
  · show A.depth + 1 < recursionLimit
    exact hroom
  · have old : ∀ b o, hp.get? b = some o → h'.get? b = some o := fun b o e => k' b o (Nat.ne_of_lt (Nat.lt_succ_of_lt (Heap.lt_size e))) (k b o e)
    have z : hp.objs.size + 1 + 1 ≤ dx := by
      first
        | (simpa only [Heap.size_push] using dn)
        | exact dn
        | (have q := dn; rw [Heap.size_push, Heap.size_push] at q; exact q)
    exact ⟨rfl, hq h' tk' (hp.objs.size + 1) dx ⟨old, Nat.le_succ _, ⟨_, _, hx, rfl, rfl, rfl⟩, Nat.le_trans (Nat.le_trans (Nat.le_succ _) (Nat.le_succ _)) z, dne, hns⟩⟩
end
end ContradictionX
end PySem
namespace PySem
namespace BadEditX
open PySem.W PySem.Calls PyProof.Rows PySem.HandSPX
abbrev exTl : List Value := [.type "ValueError", .type "Exception", .type "BaseException", .type "object"]
/-! ### the text of __init__ -/
def iA (p1 p2 : Pos) : Arguments := { posonlyargs := [], args := [{ arg := "self", annotation := none, pos := p1 }, { arg := "index", annotation := none, pos := p2 }], vararg := none, kwonlyargs := [], kw_defaults := [], kwarg := none, defaults := [] }
def iB (q1 q2 q3 q4 : Pos) : List Stmt := [.Assign [.Attribute (.Name "self" q1) "index" q2] (.Name "index" q3) q4]
def iS : Scope := { kind := .function, names := [(PySem.Str.ofString "self", .local), (PySem.Str.ofString "index", .local)], isGenerator := false, isCoroutine := false, more := [] }
/-- what the written part says of Low, at C, and of its __init__, at fI -/
structure BadEditTxt (K : Frag) (mg : Str → Option Value) (C fI : Addr) : Prop where
  gC : mg "BadEdit" = some (.ref C)
  cls : ∃ nm q N bs bm sn sub ab col dd k0 k1 k2 k3 k5, K.lookup C = some (excClassObj nm q C N bs bm true sn sub ab col dd k0 k1 k2 k3 k5 "ValueError.__new__") ∧ excTail exTl bm = true
  sa : findIn K (.ref C) "__setattr__" = some (some (.builtin "object.__setattr__"))
  ga : findIn K (.ref C) "__getattribute__" = some (some (.builtin "BaseException.__getattribute__"))
  gg : findIn K (.ref C) "__getattr__" = some none
  noN : findIn K (.ref C) "index" = some none
  iC : findIn K (.ref C) "__init__" = some (some (.ref fI))
  tC : typeIn K (.ref fI) = some (.type "function")
  kC : keepIn K (.ref C) = true
  exC : subIn K (.ref C) (.type "BaseException") = some true
  tyC : typeIn K (.ref C) = some (.type "type")
  hdC : hasDictIn K C = true
  te : exmOne K (.ref C) (.ref C) = some true
  fn : ∃ (oc : Value) (od : Option Addr) (doc pm : Value) (an : Option Addr) (cdv ct : Value) (osl : Array (Option Value)) (p1 p2 q1 q2 q3 q4 : Pos),
    K.lookup fI = some ⟨oc, od, .func (fnOf "__init__" "BadEdit.__init__" (iA p1 p2) (iB q1 q2 q3 q4) iS .none .none doc pm an cdv ct), osl⟩ ∧ codeIn K cdv "BadEdit.__init__" = true
theorem one_size (v : Value) : [v].length ≤ sizeLine := by
  rw [sizeLine_eq]
  exact (by decide : 1 ≤ 16777216)
theorem kept_but {K : Frag} {h h' : Heap} {x : Addr} (X : K.In h) (hx : K.lookup x = none) (k : ∀ b o, b ≠ x → h.get? b = some o → h'.get? b = some o) : K.In h' := fun a o e =>
  k a o (fun z => by rw [z, hx] at e; cases e) (X a o e)
theorem ldC {M : Model} {s : Shared} {name : Str} {scope : Scope} {L a : Addr} {cd : Value} {m : Str → Option Value} {x : Str} {pos : Pos} {v : Value} {Q : Value → Shared → Prop} {A : Around} {E : Value → Shared → Prop} (hn : s.heap.Ns L m) (hv : m x = some v) (h : Q v s)
    (hk : scope.kind = .function := by rfl) (hl : (envOfC name scope L a cd).kindOf x = some .local := by rfl) (hd : (x == ("__debug__" : Str)) = false := by decide) :
    wpAny M A (eval (.Name x pos) (envOfC name scope L a cd)) Q E s := wpAny_Name (wpAny_loadName_local hk hl hn hv h) hd
/-- what __init__ leaves of a fresh exception at x -/
structure InitEnd (h h' : Heap) (x C dx t1 : Addr) (v : Value) : Prop where
  keep : ∀ b o, b ≠ x → h.get? b = some o → h'.get? b = some o
  obj : h'.get? x = some { cls := .ref C, dict := some dx, data := .fields #[.ref t1, .none, .none, .none, .bool false, .none] }
  dbig : h.objs.size ≤ dx
  dne : dx ≠ x
  ns : h'.Ns1 dx (fun y => if y = "index" then some v else none)
section
variable {prog : Program} {w : World} {A : Around} {E : Value → Shared → Prop} {R : Result → Shared → Prop} {s : Shared} {K : Frag} {mg : Str → Option Value} {C fI : Addr}
theorem c_init (T : BadEditTxt K mg C fI) {x t0 : Addr} {v : Value} (X : K.In s.heap) (hlim : s.heap.NoLimit) (hx : s.heap.get? x = some (excO C t0)) (hnx : K.lookup x = none) (hroom : A.depth < recursionLimit)
    (hq : ∀ h' tk dx, InitEnd s.heap h' x C dx t0 v → R (.ok (.ret .none)) { s with heap := h', toks := tk }) :
    codeAny (model prog w) A (.call (.ref fI) ⟨[.ref x, v], []⟩) R s := by
  obtain ⟨oc, od, doc, pm, an, cdv, ct, osl, p1, p2, q1, q2, q3, q4, ho, hcd⟩ := T.fn
  obtain ⟨nm, q, N, bs, bm, sn, sub, ab, col, dd, k0, k1, k2, k3, k5, hC, hbm⟩ := T.cls
  have hcl : clsIn K C = some { name := nm, bases := bs, mro := .ref C :: bm, ns := N, qualname := q, hasDict := true, slotNames := sn, subclasses := sub, abstract := ab, collection := col, hasDel := false } := by unfold clsIn; rw [hC] <;> rfl
  refine Att.call_fn (binds := [("self", .ref x), ("index", v)]) X hlim ho hcd hroom (BindsTo.of_eq (by first | rfl | with_unfolding_all rfl)) (by first | rfl | decide | with_unfolding_all rfl) (fun s₁ IC => ?_) rfl rfl rfl
  obtain ⟨h₁, tk₁, rfl⟩ := IC.toInCall.same
  have k : ∀ b o, s.heap.get? b = some o → h₁.get? b = some o := IC.toInCall.keep
  have hn := IC.toInCall.ns
  have hxL : s.heap.objs.size ≠ x := Nat.ne_of_gt (Heap.lt_size hx)
  have X₁ : K.In h₁ := X.keeps k
  have hx₁ := k _ _ hx
  -- self.by = by
  show wpAny _ _ (execs _ _) _ _ _
  refine wpAny_execs_cons (plainObj_wpAny_Assign_Attribute ?_)
  refine ldC (v := v) hn (by first | rfl | with_unfolding_all rfl | kernel_rfl) (ldC (v := .ref x) hn (by first | rfl | with_unfolding_all rfl | kernel_rfl) ?_)
  refine set_plain X₁ (ox := excO C t0) (od := none) ⟨hx₁, rfl, rfl, trivial⟩ T.sa ?_
  refine Gd.osaX (fun self => F.store_ValueError.passes self) (by decide +kernel) X₁ hx₁ hcl (show excTail exTl (.ref C :: bm) = true from hbm) rfl T.noN (fun h₃ tk₃ dx k₃ dn dne hx₃ hn₃ => ?_)
  show wpAny _ _ (execs _ _) _ _ _
  have z : s.heap.objs.size < h₁.objs.size := hn.lt
  exact wpAny_execs_nil (hq h₃ tk₃ dx ⟨fun b o hb e => k₃ b o hb (k b o e), hx₃, Nat.le_of_lt (Nat.lt_of_lt_of_le z dn), dne, hn₃⟩)
theorem c_made (T : BadEditTxt K mg C fI) {v : Value} (X : K.In s.heap) (hlim : s.heap.NoLimit) (hroom : A.depth + 1 < recursionLimit)
    (hq : ∀ h' tk e d, Gd.OwnMade "index" s.heap h' e C d v → R (.ok (.ret (.ref e))) { s with heap := h', toks := tk }) :
    codeAny (model prog w) A (.call (.ref C) ⟨[v], []⟩) R s := by
  obtain ⟨nm, q, N, bs, bm, sn, sub, ab, col, dd, k0, k1, k2, k3, k5, hC, hbm⟩ := T.cls
  obtain ⟨hp, g, dr, tk, os⟩ := s
  have k : ∀ b o, hp.get? b = some o → ((hp.push (kdv_tup [v])).push (excO C hp.objs.size)).get? b = some o := fun b o e => Heap.get?_push_of_some _ (Heap.get?_push_of_some _ e)
  have hget : ((hp.push (kdv_tup [v])).push (excO C hp.objs.size)).get? (hp.objs.size + 1) = some (excO C hp.objs.size) := by heap_get
  have hnx : K.lookup (hp.objs.size + 1) = none := by
    cases e : K.lookup (hp.objs.size + 1) with
    | none => rfl
    | some o =>
      have z : hp.get? (hp.objs.size + 1) = some o := X _ _ e
      exact absurd (Nat.lt_of_succ_lt (Heap.lt_size z)) (Nat.lt_irrefl _)
  refine call_own F.excBase_ValueError (fun X => excTail_contains X bm hbm) (X _ _ hC) (looks_findIn X T.iC) (fun self => bind_fn X self T.tC) (one_size v) ?_
  refine c_init (s := ⟨(hp.push (kdv_tup [v])).push (excO C hp.objs.size), g, dr, tk, os⟩) T (X.keeps k) (hlim.keeps k) hget hnx ?_ fun h' tk' dx ⟨k', hx, dn, dne, hns⟩ => ?_
  · show A.depth + 1 < recursionLimit
    exact hroom
  · have old : ∀ b o, hp.get? b = some o → h'.get? b = some o := fun b o e => k' b o (Nat.ne_of_lt (Nat.lt_succ_of_lt (Heap.lt_size e))) (k b o e)
    have z : hp.objs.size + 1 + 1 ≤ dx := by
      first
        | (simpa only [Heap.size_push] using dn)
        | exact dn
        | (have q := dn; rw [Heap.size_push, Heap.size_push] at q; exact q)
    exact ⟨rfl, hq h' tk' (hp.objs.size + 1) dx ⟨old, Nat.le_succ _, ⟨_, _, hx, rfl, rfl, rfl⟩, Nat.le_trans (Nat.le_trans (Nat.le_succ _) (Nat.le_succ _)) z, dne, hns⟩⟩
end
end BadEditX
end PySem
namespace PySem
namespace RejectedX
open PySem.W PySem.Calls PyProof.Rows PySem.HandSPX
abbrev exTl : List Value := [.type "ValueError", .type "Exception", .type "BaseException", .type "object"]
/-! ### the text of __init__ -/
def iA (p1 p2 : Pos) : Arguments := { posonlyargs := [], args := [{ arg := "self", annotation := none, pos := p1 }, { arg := "index", annotation := none, pos := p2 }], vararg := none, kwonlyargs := [], kw_defaults := [], kwarg := none, defaults := [] }
def iB (q1 q2 q3 q4 : Pos) : List Stmt := [.Assign [.Attribute (.Name "self" q1) "index" q2] (.Name "index" q3) q4]
def iS : Scope := { kind := .function, names := [(PySem.Str.ofString "self", .local), (PySem.Str.ofString "index", .local)], isGenerator := false, isCoroutine := false, more := [] }
/-- what the written part says of Low, at C, and of its __init__, at fI -/
structure RejectedTxt (K : Frag) (mg : Str → Option Value) (C fI : Addr) : Prop where
  gC : mg "Rejected" = some (.ref C)
  cls : ∃ nm q N bs bm sn sub ab col dd k0 k1 k2 k3 k5, K.lookup C = some (excClassObj nm q C N bs bm true sn sub ab col dd k0 k1 k2 k3 k5 "ValueError.__new__") ∧ excTail exTl bm = true
  sa : findIn K (.ref C) "__setattr__" = some (some (.builtin "object.__setattr__"))
  ga : findIn K (.ref C) "__getattribute__" = some (some (.builtin "BaseException.__getattribute__"))
  gg : findIn K (.ref C) "__getattr__" = some none
  noN : findIn K (.ref C) "index" = some none
  iC : findIn K (.ref C) "__init__" = some (some (.ref fI))
  tC : typeIn K (.ref fI) = some (.type "function")
  kC : keepIn K (.ref C) = true
  exC : subIn K (.ref C) (.type "BaseException") = some true
  tyC : typeIn K (.ref C) = some (.type "type")
  hdC : hasDictIn K C = true
  te : exmOne K (.ref C) (.ref C) = some true
  fn : ∃ (oc : Value) (od : Option Addr) (doc pm : Value) (an : Option Addr) (cdv ct : Value) (osl : Array (Option Value)) (p1 p2 q1 q2 q3 q4 : Pos),
    K.lookup fI = some ⟨oc, od, .func (fnOf "__init__" "Rejected.__init__" (iA p1 p2) (iB q1 q2 q3 q4) iS .none .none doc pm an cdv ct), osl⟩ ∧ codeIn K cdv "Rejected.__init__" = true
theorem one_size (v : Value) : [v].length ≤ sizeLine := by
  rw [sizeLine_eq]
  exact (by decide : 1 ≤ 16777216)
theorem kept_but {K : Frag} {h h' : Heap} {x : Addr} (X : K.In h) (hx : K.lookup x = none) (k : ∀ b o, b ≠ x → h.get? b = some o → h'.get? b = some o) : K.In h' := fun a o e =>
  k a o (fun z => by rw [z, hx] at e; cases e) (X a o e)
theorem ldC {M : Model} {s : Shared} {name : Str} {scope : Scope} {L a : Addr} {cd : Value} {m : Str → Option Value} {x : Str} {pos : Pos} {v : Value} {Q : Value → Shared → Prop} {A : Around} {E : Value → Shared → Prop} (hn : s.heap.Ns L m) (hv : m x = some v) (h : Q v s)
    (hk : scope.kind = .function := by rfl) (hl : (envOfC name scope L a cd).kindOf x = some .local := by rfl) (hd : (x == ("__debug__" : Str)) = false := by decide) :
    wpAny M A (eval (.Name x pos) (envOfC name scope L a cd)) Q E s := wpAny_Name (wpAny_loadName_local hk hl hn hv h) hd
/-- what __init__ leaves of a fresh exception at x -/
structure InitEnd (h h' : Heap) (x C dx t1 : Addr) (v : Value) : Prop where
  keep : ∀ b o, b ≠ x → h.get? b = some o → h'.get? b = some o
  obj : h'.get? x = some { cls := .ref C, dict := some dx, data := .fields #[.ref t1, .none, .none, .none, .bool false, .none] }
  dbig : h.objs.size ≤ dx
  dne : dx ≠ x
  ns : h'.Ns1 dx (fun y => if y = "index" then some v else none)
section
variable {prog : Program} {w : World} {A : Around} {E : Value → Shared → Prop} {R : Result → Shared → Prop} {s : Shared} {K : Frag} {mg : Str → Option Value} {C fI : Addr}
theorem c_init (T : RejectedTxt K mg C fI) {x t0 : Addr} {v : Value} (X : K.In s.heap) (hlim : s.heap.NoLimit) (hx : s.heap.get? x = some (excO C t0)) (hnx : K.lookup x = none) (hroom : A.depth < recursionLimit)
    (hq : ∀ h' tk dx, InitEnd s.heap h' x C dx t0 v → R (.ok (.ret .none)) { s with heap := h', toks := tk }) :
    codeAny (model prog w) A (.call (.ref fI) ⟨[.ref x, v], []⟩) R s := by
  obtain ⟨oc, od, doc, pm, an, cdv, ct, osl, p1, p2, q1, q2, q3, q4, ho, hcd⟩ := T.fn
  obtain ⟨nm, q, N, bs, bm, sn, sub, ab, col, dd, k0, k1, k2, k3, k5, hC, hbm⟩ := T.cls
  have hcl : clsIn K C = some { name := nm, bases := bs, mro := .ref C :: bm, ns := N, qualname := q, hasDict := true, slotNames := sn, subclasses := sub, abstract := ab, collection := col, hasDel := false } := by unfold clsIn; rw [hC] <;> rfl
  refine Att.call_fn (binds := [("self", .ref x), ("index", v)]) X hlim ho hcd hroom (BindsTo.of_eq (by first | rfl | with_unfolding_all rfl)) (by first | rfl | decide | with_unfolding_all rfl) (fun s₁ IC => ?_) rfl rfl rfl
  obtain ⟨h₁, tk₁, rfl⟩ := IC.toInCall.same
  have k : ∀ b o, s.heap.get? b = some o → h₁.get? b = some o := IC.toInCall.keep
  have hn := IC.toInCall.ns
  have hxL : s.heap.objs.size ≠ x := Nat.ne_of_gt (Heap.lt_size hx)
  have X₁ : K.In h₁ := X.keeps k
  have hx₁ := k _ _ hx
  -- self.by = by
  show wpAny _ _ (execs _ _) _ _ _
  refine wpAny_execs_cons (plainObj_wpAny_Assign_Attribute ?_)
  refine ldC (v := v) hn (by first | rfl | with_unfolding_all rfl | kernel_rfl) (ldC (v := .ref x) hn (by first | rfl | with_unfolding_all rfl | kernel_rfl) ?_)
  refine set_plain X₁ (ox := excO C t0) (od := none) ⟨hx₁, rfl, rfl, trivial⟩ T.sa ?_
  refine Gd.osaX (fun self => F.store_ValueError.passes self) (by decide +kernel) X₁ hx₁ hcl (show excTail exTl (.ref C :: bm) = true from hbm) rfl T.noN (fun h₃ tk₃ dx k₃ dn dne hx₃ hn₃ => ?_)
  show wpAny _ _ (execs _ _) _ _ _
  have z : s.heap.objs.size < h₁.objs.size := hn.lt
  exact wpAny_execs_nil (hq h₃ tk₃ dx ⟨fun b o hb e => k₃ b o hb (k b o e), hx₃, Nat.le_of_lt (Nat.lt_of_lt_of_le z dn), dne, hn₃⟩)
theorem c_made (T : RejectedTxt K mg C fI) {v : Value} (X : K.In s.heap) (hlim : s.heap.NoLimit) (hroom : A.depth + 1 < recursionLimit)
    (hq : ∀ h' tk e d, Gd.OwnMade "index" s.heap h' e C d v → R (.ok (.ret (.ref e))) { s with heap := h', toks := tk }) :
    codeAny (model prog w) A (.call (.ref C) ⟨[v], []⟩) R s := by
  obtain ⟨nm, q, N, bs, bm, sn, sub, ab, col, dd, k0, k1, k2, k3, k5, hC, hbm⟩ := T.cls
  obtain ⟨hp, g, dr, tk, os⟩ := s
  have k : ∀ b o, hp.get? b = some o → ((hp.push (kdv_tup [v])).push (excO C hp.objs.size)).get? b = some o := fun b o e => Heap.get?_push_of_some _ (Heap.get?_push_of_some _ e)
  have hget : ((hp.push (kdv_tup [v])).push (excO C hp.objs.size)).get? (hp.objs.size + 1) = some (excO C hp.objs.size) := by heap_get
  have hnx : K.lookup (hp.objs.size + 1) = none := by
    cases e : K.lookup (hp.objs.size + 1) with
    | none => rfl
    | some o =>
      have z : hp.get? (hp.objs.size + 1) = some o := X _ _ e
      exact absurd (Nat.lt_of_succ_lt (Heap.lt_size z)) (Nat.lt_irrefl _)
  refine call_own F.excBase_ValueError (fun X => excTail_contains X bm hbm) (X _ _ hC) (looks_findIn X T.iC) (fun self => bind_fn X self T.tC) (one_size v) ?_
  refine c_init (s := ⟨(hp.push (kdv_tup [v])).push (excO C hp.objs.size), g, dr, tk, os⟩) T (X.keeps k) (hlim.keeps k) hget hnx ?_ fun h' tk' dx ⟨k', hx, dn, dne, hns⟩ => ?_
  · show A.depth + 1 < recursionLimit
    exact hroom
  · have old : ∀ b o, hp.get? b = some o → h'.get? b = some o := fun b o e => k' b o (Nat.ne_of_lt (Nat.lt_succ_of_lt (Heap.lt_size e))) (k b o e)
    have z : hp.objs.size + 1 + 1 ≤ dx := by
      first
        | (simpa only [Heap.size_push] using dn)
        | exact dn
        | (have q := dn; rw [Heap.size_push, Heap.size_push] at q; exact q)
    exact ⟨rfl, hq h' tk' (hp.objs.size + 1) dx ⟨old, Nat.le_succ _, ⟨_, _, hx, rfl, rfl, rfl⟩, Nat.le_trans (Nat.le_trans (Nat.le_succ _) (Nat.le_succ _)) z, dne, hns⟩⟩
end
end RejectedX
end PySem
namespace PySem
namespace BadTextX
open PySem.W PySem.Calls PyProof.Rows PySem.HandSPX
abbrev exTl : List Value := [.type "ValueError", .type "Exception", .type "BaseException", .type "object"]
/-! ### the text of __init__ -/
def iA (p1 p2 : Pos) : Arguments := { posonlyargs := [], args := [{ arg := "self", annotation := none, pos := p1 }, { arg := "index", annotation := none, pos := p2 }], vararg := none, kwonlyargs := [], kw_defaults := [], kwarg := none, defaults := [] }
def iB (q1 q2 q3 q4 : Pos) : List Stmt := [.Assign [.Attribute (.Name "self" q1) "index" q2] (.Name "index" q3) q4]
def iS : Scope := { kind := .function, names := [(PySem.Str.ofString "self", .local), (PySem.Str.ofString "index", .local)], isGenerator := false, isCoroutine := false, more := [] }
/-- what the written part says of Low, at C, and of its __init__, at fI -/
structure BadTextTxt (K : Frag) (mg : Str → Option Value) (C fI : Addr) : Prop where
  gC : mg "BadText" = some (.ref C)
  cls : ∃ nm q N bs bm sn sub ab col dd k0 k1 k2 k3 k5, K.lookup C = some (excClassObj nm q C N bs bm true sn sub ab col dd k0 k1 k2 k3 k5 "ValueError.__new__") ∧ excTail exTl bm = true
  sa : findIn K (.ref C) "__setattr__" = some (some (.builtin "object.__setattr__"))
  ga : findIn K (.ref C) "__getattribute__" = some (some (.builtin "BaseException.__getattribute__"))
  gg : findIn K (.ref C) "__getattr__" = some none
  noN : findIn K (.ref C) "index" = some none
  iC : findIn K (.ref C) "__init__" = some (some (.ref fI))
  tC : typeIn K (.ref fI) = some (.type "function")
  kC : keepIn K (.ref C) = true
  exC : subIn K (.ref C) (.type "BaseException") = some true
  tyC : typeIn K (.ref C) = some (.type "type")
  hdC : hasDictIn K C = true
  te : exmOne K (.ref C) (.ref C) = some true
  fn : ∃ (oc : Value) (od : Option Addr) (doc pm : Value) (an : Option Addr) (cdv ct : Value) (osl : Array (Option Value)) (p1 p2 q1 q2 q3 q4 : Pos),
    K.lookup fI = some ⟨oc, od, .func (fnOf "__init__" "BadText.__init__" (iA p1 p2) (iB q1 q2 q3 q4) iS .none .none doc pm an cdv ct), osl⟩ ∧ codeIn K cdv "BadText.__init__" = true
theorem one_size (v : Value) : [v].length ≤ sizeLine := by
  rw [sizeLine_eq]
  exact (by decide : 1 ≤ 16777216)
theorem kept_but {K : Frag} {h h' : Heap} {x : Addr} (X : K.In h) (hx : K.lookup x = none) (k : ∀ b o, b ≠ x → h.get? b = some o → h'.get? b = some o) : K.In h' := fun a o e =>
  k a o (fun z => by rw [z, hx] at e; cases e) (X a o e)
theorem ldC {M : Model} {s : Shared} {name : Str} {scope : Scope} {L a : Addr} {cd : Value} {m : Str → Option Value} {x : Str} {pos : Pos} {v : Value} {Q : Value → Shared → Prop} {A : Around} {E : Value → Shared → Prop} (hn : s.heap.Ns L m) (hv : m x = some v) (h : Q v s)
    (hk : scope.kind = .function := by rfl) (hl : (envOfC name scope L a cd).kindOf x = some .local := by rfl) (hd : (x == ("__debug__" : Str)) = false := by decide) :
    wpAny M A (eval (.Name x pos) (envOfC name scope L a cd)) Q E s := wpAny_Name (wpAny_loadName_local hk hl hn hv h) hd
/-- what __init__ leaves of a fresh exception at x -/
structure InitEnd (h h' : Heap) (x C dx t1 : Addr) (v : Value) : Prop where
  keep : ∀ b o, b ≠ x → h.get? b = some o → h'.get? b = some o
  obj : h'.get? x = some { cls := .ref C, dict := some dx, data := .fields #[.ref t1, .none, .none, .none, .bool false, .none] }
  dbig : h.objs.size ≤ dx
  dne : dx ≠ x
  ns : h'.Ns1 dx (fun y => if y = "index" then some v else none)
section
variable {prog : Program} {w : World} {A : Around} {E : Value → Shared → Prop} {R : Result → Shared → Prop} {s : Shared} {K : Frag} {mg : Str → Option Value} {C fI : Addr}
theorem c_init (T : BadTextTxt K mg C fI) {x t0 : Addr} {v : Value} (X : K.In s.heap) (hlim : s.heap.NoLimit) (hx : s.heap.get? x = some (excO C t0)) (hnx : K.lookup x = none) (hroom : A.depth < recursionLimit)
    (hq : ∀ h' tk dx, InitEnd s.heap h' x C dx t0 v → R (.ok (.ret .none)) { s with heap := h', toks := tk }) :
    codeAny (model prog w) A (.call (.ref fI) ⟨[.ref x, v], []⟩) R s := by
  obtain ⟨oc, od, doc, pm, an, cdv, ct, osl, p1, p2, q1, q2, q3, q4, ho, hcd⟩ := T.fn
  obtain ⟨nm, q, N, bs, bm, sn, sub, ab, col, dd, k0, k1, k2, k3, k5, hC, hbm⟩ := T.cls
  have hcl : clsIn K C = some { name := nm, bases := bs, mro := .ref C :: bm, ns := N, qualname := q, hasDict := true, slotNames := sn, subclasses := sub, abstract := ab, collection := col, hasDel := false } := by unfold clsIn; rw [hC] <;> rfl
  refine Att.call_fn (binds := [("self", .ref x), ("index", v)]) X hlim ho hcd hroom (BindsTo.of_eq (by first | rfl | with_unfolding_all rfl)) (by first | rfl | decide | with_unfolding_all rfl) (fun s₁ IC => ?_) rfl rfl rfl
  obtain ⟨h₁, tk₁, rfl⟩ := IC.toInCall.same
  have k : ∀ b o, s.heap.get? b = some o → h₁.get? b = some o := IC.toInCall.keep
  have hn := IC.toInCall.ns
  have hxL : s.heap.objs.size ≠ x := Nat.ne_of_gt (Heap.lt_size hx)
  have X₁ : K.In h₁ := X.keeps k
  have hx₁ := k _ _ hx
  -- self.by = by
  show wpAny _ _ (execs _ _) _ _ _
  refine wpAny_execs_cons (plainObj_wpAny_Assign_Attribute ?_)
  refine ldC (v := v) hn (by first | rfl | with_unfolding_all rfl | kernel_rfl) (ldC (v := .ref x) hn (by first | rfl | with_unfolding_all rfl | kernel_rfl) ?_)
  refine set_plain X₁ (ox := excO C t0) (od := none) ⟨hx₁, rfl, rfl, trivial⟩ T.sa ?_
  refine Gd.osaX (fun self => F.store_ValueError.passes self) (by decide +kernel) X₁ hx₁ hcl (show excTail exTl (.ref C :: bm) = true from hbm) rfl T.noN (fun h₃ tk₃ dx k₃ dn dne hx₃ hn₃ => ?_)
  show wpAny _ _ (execs _ _) _ _ _
  have z : s.heap.objs.size < h₁.objs.size := hn.lt
  exact wpAny_execs_nil (hq h₃ tk₃ dx ⟨fun b o hb e => k₃ b o hb (k b o e), hx₃, Nat.le_of_lt (Nat.lt_of_lt_of_le z dn), dne, hn₃⟩)
theorem c_made (T : BadTextTxt K mg C fI) {v : Value} (X : K.In s.heap) (hlim : s.heap.NoLimit) (hroom : A.depth + 1 < recursionLimit)
    (hq : ∀ h' tk e d, Gd.OwnMade "index" s.heap h' e C d v → R (.ok (.ret (.ref e))) { s with heap := h', toks := tk }) :
    codeAny (model prog w) A (.call (.ref C) ⟨[v], []⟩) R s := by
  obtain ⟨nm, q, N, bs, bm, sn, sub, ab, col, dd, k0, k1, k2, k3, k5, hC, hbm⟩ := T.cls
  obtain ⟨hp, g, dr, tk, os⟩ := s
  have k : ∀ b o, hp.get? b = some o → ((hp.push (kdv_tup [v])).push (excO C hp.objs.size)).get? b = some o := fun b o e => Heap.get?_push_of_some _ (Heap.get?_push_of_some _ e)
  have hget : ((hp.push (kdv_tup [v])).push (excO C hp.objs.size)).get? (hp.objs.size + 1) = some (excO C hp.objs.size) := by heap_get
  have hnx : K.lookup (hp.objs.size + 1) = none := by
    cases e : K.lookup (hp.objs.size + 1) with
    | none => rfl
    | some o =>
      have z : hp.get? (hp.objs.size + 1) = some o := X _ _ e
      exact absurd (Nat.lt_of_succ_lt (Heap.lt_size z)) (Nat.lt_irrefl _)
  refine call_own F.excBase_ValueError (fun X => excTail_contains X bm hbm) (X _ _ hC) (looks_findIn X T.iC) (fun self => bind_fn X self T.tC) (one_size v) ?_
  refine c_init (s := ⟨(hp.push (kdv_tup [v])).push (excO C hp.objs.size), g, dr, tk, os⟩) T (X.keeps k) (hlim.keeps k) hget hnx ?_ fun h' tk' dx ⟨k', hx, dn, dne, hns⟩ => ?_
  · show A.depth + 1 < recursionLimit
    exact hroom
  · have old : ∀ b o, hp.get? b = some o → h'.get? b = some o := fun b o e => k' b o (Nat.ne_of_lt (Nat.lt_succ_of_lt (Heap.lt_size e))) (k b o e)
    have z : hp.objs.size + 1 + 1 ≤ dx := by
      first
        | (simpa only [Heap.size_push] using dn)
        | exact dn
        | (have q := dn; rw [Heap.size_push, Heap.size_push] at q; exact q)
    exact ⟨rfl, hq h' tk' (hp.objs.size + 1) dx ⟨old, Nat.le_succ _, ⟨_, _, hx, rfl, rfl, rfl⟩, Nat.le_trans (Nat.le_trans (Nat.le_succ _) (Nat.le_succ _)) z, dne, hns⟩⟩
end
end BadTextX
end PySem
namespace PySem
namespace NoWindowX
open PySem.W PySem.Calls PyProof.Rows PySem.HandSPX
abbrev exTl : List Value := [.type "LookupError", .type "Exception", .type "BaseException", .type "object"]
/-! ### the text of __init__ -/
def iA (p1 p2 : Pos) : Arguments := { posonlyargs := [], args := [{ arg := "self", annotation := none, pos := p1 }, { arg := "value", annotation := none, pos := p2 }], vararg := none, kwonlyargs := [], kw_defaults := [], kwarg := none, defaults := [] }
def iB (q1 q2 q3 q4 : Pos) : List Stmt := [.Assign [.Attribute (.Name "self" q1) "value" q2] (.Name "value" q3) q4]
def iS : Scope := { kind := .function, names := [(PySem.Str.ofString "self", .local), (PySem.Str.ofString "value", .local)], isGenerator := false, isCoroutine := false, more := [] }
/-- what the written part says of Low, at C, and of its __init__, at fI -/
structure NoWindowTxt (K : Frag) (mg : Str → Option Value) (C fI : Addr) : Prop where
  gC : mg "NoWindow" = some (.ref C)
  cls : ∃ nm q N bs bm sn sub ab col dd k0 k1 k2 k3 k5, K.lookup C = some (excClassObj nm q C N bs bm true sn sub ab col dd k0 k1 k2 k3 k5 "LookupError.__new__") ∧ excTail exTl bm = true
  sa : findIn K (.ref C) "__setattr__" = some (some (.builtin "object.__setattr__"))
  ga : findIn K (.ref C) "__getattribute__" = some (some (.builtin "BaseException.__getattribute__"))
  gg : findIn K (.ref C) "__getattr__" = some none
  noN : findIn K (.ref C) "value" = some none
  iC : findIn K (.ref C) "__init__" = some (some (.ref fI))
  tC : typeIn K (.ref fI) = some (.type "function")
  kC : keepIn K (.ref C) = true
  exC : subIn K (.ref C) (.type "BaseException") = some true
  tyC : typeIn K (.ref C) = some (.type "type")
  hdC : hasDictIn K C = true
  te : exmOne K (.ref C) (.ref C) = some true
  fn : ∃ (oc : Value) (od : Option Addr) (doc pm : Value) (an : Option Addr) (cdv ct : Value) (osl : Array (Option Value)) (p1 p2 q1 q2 q3 q4 : Pos),
    K.lookup fI = some ⟨oc, od, .func (fnOf "__init__" "NoWindow.__init__" (iA p1 p2) (iB q1 q2 q3 q4) iS .none .none doc pm an cdv ct), osl⟩ ∧ codeIn K cdv "NoWindow.__init__" = true
theorem one_size (v : Value) : [v].length ≤ sizeLine := by
  rw [sizeLine_eq]
  exact (by decide : 1 ≤ 16777216)
theorem kept_but {K : Frag} {h h' : Heap} {x : Addr} (X : K.In h) (hx : K.lookup x = none) (k : ∀ b o, b ≠ x → h.get? b = some o → h'.get? b = some o) : K.In h' := fun a o e =>
  k a o (fun z => by rw [z, hx] at e; cases e) (X a o e)
theorem ldC {M : Model} {s : Shared} {name : Str} {scope : Scope} {L a : Addr} {cd : Value} {m : Str → Option Value} {x : Str} {pos : Pos} {v : Value} {Q : Value → Shared → Prop} {A : Around} {E : Value → Shared → Prop} (hn : s.heap.Ns L m) (hv : m x = some v) (h : Q v s)
    (hk : scope.kind = .function := by rfl) (hl : (envOfC name scope L a cd).kindOf x = some .local := by rfl) (hd : (x == ("__debug__" : Str)) = false := by decide) :
    wpAny M A (eval (.Name x pos) (envOfC name scope L a cd)) Q E s := wpAny_Name (wpAny_loadName_local hk hl hn hv h) hd
/-- what __init__ leaves of a fresh exception at x -/
structure InitEnd (h h' : Heap) (x C dx t1 : Addr) (v : Value) : Prop where
  keep : ∀ b o, b ≠ x → h.get? b = some o → h'.get? b = some o
  obj : h'.get? x = some { cls := .ref C, dict := some dx, data := .fields #[.ref t1, .none, .none, .none, .bool false, .none] }
  dbig : h.objs.size ≤ dx
  dne : dx ≠ x
  ns : h'.Ns1 dx (fun y => if y = "value" then some v else none)
section
variable {prog : Program} {w : World} {A : Around} {E : Value → Shared → Prop} {R : Result → Shared → Prop} {s : Shared} {K : Frag} {mg : Str → Option Value} {C fI : Addr}
theorem c_init (T : NoWindowTxt K mg C fI) {x t0 : Addr} {v : Value} (X : K.In s.heap) (hlim : s.heap.NoLimit) (hx : s.heap.get? x = some (excO C t0)) (hnx : K.lookup x = none) (hroom : A.depth < recursionLimit)
    (hq : ∀ h' tk dx, InitEnd s.heap h' x C dx t0 v → R (.ok (.ret .none)) { s with heap := h', toks := tk }) :
    codeAny (model prog w) A (.call (.ref fI) ⟨[.ref x, v], []⟩) R s := by
  obtain ⟨oc, od, doc, pm, an, cdv, ct, osl, p1, p2, q1, q2, q3, q4, ho, hcd⟩ := T.fn
  obtain ⟨nm, q, N, bs, bm, sn, sub, ab, col, dd, k0, k1, k2, k3, k5, hC, hbm⟩ := T.cls
  have hcl : clsIn K C = some { name := nm, bases := bs, mro := .ref C :: bm, ns := N, qualname := q, hasDict := true, slotNames := sn, subclasses := sub, abstract := ab, collection := col, hasDel := false } := by unfold clsIn; rw [hC] <;> rfl
  refine Att.call_fn (binds := [("self", .ref x), ("value", v)]) X hlim ho hcd hroom (BindsTo.of_eq (by first | rfl | with_unfolding_all rfl)) (by first | rfl | decide | with_unfolding_all rfl) (fun s₁ IC => ?_) rfl rfl rfl
  obtain ⟨h₁, tk₁, rfl⟩ := IC.toInCall.same
  have k : ∀ b o, s.heap.get? b = some o → h₁.get? b = some o := IC.toInCall.keep
  have hn := IC.toInCall.ns
  have hxL : s.heap.objs.size ≠ x := Nat.ne_of_gt (Heap.lt_size hx)
  have X₁ : K.In h₁ := X.keeps k
  have hx₁ := k _ _ hx
  -- self.by = by
  show wpAny _ _ (execs _ _) _ _ _
  refine wpAny_execs_cons (plainObj_wpAny_Assign_Attribute ?_)
  refine ldC (v := v) hn (by first | rfl | with_unfolding_all rfl | kernel_rfl) (ldC (v := .ref x) hn (by first | rfl | with_unfolding_all rfl | kernel_rfl) ?_)
  refine set_plain X₁ (ox := excO C t0) (od := none) ⟨hx₁, rfl, rfl, trivial⟩ T.sa ?_
  refine Gd.osaX (fun self => F.store_LookupError.passes self) (by decide +kernel) X₁ hx₁ hcl (show excTail exTl (.ref C :: bm) = true from hbm) rfl T.noN (fun h₃ tk₃ dx k₃ dn dne hx₃ hn₃ => ?_)
  show wpAny _ _ (execs _ _) _ _ _
  have z : s.heap.objs.size < h₁.objs.size := hn.lt
  exact wpAny_execs_nil (hq h₃ tk₃ dx ⟨fun b o hb e => k₃ b o hb (k b o e), hx₃, Nat.le_of_lt (Nat.lt_of_lt_of_le z dn), dne, hn₃⟩)
theorem c_made (T : NoWindowTxt K mg C fI) {v : Value} (X : K.In s.heap) (hlim : s.heap.NoLimit) (hroom : A.depth + 1 < recursionLimit)
    (hq : ∀ h' tk e d, Gd.OwnMade "value" s.heap h' e C d v → R (.ok (.ret (.ref e))) { s with heap := h', toks := tk }) :
    codeAny (model prog w) A (.call (.ref C) ⟨[v], []⟩) R s := by
  obtain ⟨nm, q, N, bs, bm, sn, sub, ab, col, dd, k0, k1, k2, k3, k5, hC, hbm⟩ := T.cls
  obtain ⟨hp, g, dr, tk, os⟩ := s
  have k : ∀ b o, hp.get? b = some o → ((hp.push (kdv_tup [v])).push (excO C hp.objs.size)).get? b = some o := fun b o e => Heap.get?_push_of_some _ (Heap.get?_push_of_some _ e)
  have hget : ((hp.push (kdv_tup [v])).push (excO C hp.objs.size)).get? (hp.objs.size + 1) = some (excO C hp.objs.size) := by heap_get
  have hnx : K.lookup (hp.objs.size + 1) = none := by
    cases e : K.lookup (hp.objs.size + 1) with
    | none => rfl
    | some o =>
      have z : hp.get? (hp.objs.size + 1) = some o := X _ _ e
      exact absurd (Nat.lt_of_succ_lt (Heap.lt_size z)) (Nat.lt_irrefl _)
  refine call_own F.excBase_LookupError (fun X => excTail_contains X bm hbm) (X _ _ hC) (looks_findIn X T.iC) (fun self => bind_fn X self T.tC) (one_size v) ?_
  refine c_init (s := ⟨(hp.push (kdv_tup [v])).push (excO C hp.objs.size), g, dr, tk, os⟩) T (X.keeps k) (hlim.keeps k) hget hnx ?_ fun h' tk' dx ⟨k', hx, dn, dne, hns⟩ => ?_
  · show A.depth + 1 < recursionLimit
    exact hroom
  · have old : ∀ b o, hp.get? b = some o → h'.get? b = some o := fun b o e => k' b o (Nat.ne_of_lt (Nat.lt_succ_of_lt (Heap.lt_size e))) (k b o e)
    have z : hp.objs.size + 1 + 1 ≤ dx := by
      first
        | (simpa only [Heap.size_push] using dn)
        | exact dn
        | (have q := dn; rw [Heap.size_push, Heap.size_push] at q; exact q)
    exact ⟨rfl, hq h' tk' (hp.objs.size + 1) dx ⟨old, Nat.le_succ _, ⟨_, _, hx, rfl, rfl, rfl⟩, Nat.le_trans (Nat.le_trans (Nat.le_succ _) (Nat.le_succ _)) z, dne, hns⟩⟩
end
end NoWindowX
end PySem
namespace PySem
namespace NoIndexX
open PySem.W PySem.Calls PyProof.Rows PySem.HandSPX
abbrev exTl : List Value := [.type "LookupError", .type "Exception", .type "BaseException", .type "object"]
/-! ### the text of __init__ -/
def iA (p1 p2 : Pos) : Arguments := { posonlyargs := [], args := [{ arg := "self", annotation := none, pos := p1 }, { arg := "value", annotation := none, pos := p2 }], vararg := none, kwonlyargs := [], kw_defaults := [], kwarg := none, defaults := [] }
def iB (q1 q2 q3 q4 : Pos) : List Stmt := [.Assign [.Attribute (.Name "self" q1) "value" q2] (.Name "value" q3) q4]
def iS : Scope := { kind := .function, names := [(PySem.Str.ofString "self", .local), (PySem.Str.ofString "value", .local)], isGenerator := false, isCoroutine := false, more := [] }
/-- what the written part says of Low, at C, and of its __init__, at fI -/
structure NoIndexTxt (K : Frag) (mg : Str → Option Value) (C fI : Addr) : Prop where
  gC : mg "NoIndex" = some (.ref C)
  cls : ∃ nm q N bs bm sn sub ab col dd k0 k1 k2 k3 k5, K.lookup C = some (excClassObj nm q C N bs bm true sn sub ab col dd k0 k1 k2 k3 k5 "LookupError.__new__") ∧ excTail exTl bm = true
  sa : findIn K (.ref C) "__setattr__" = some (some (.builtin "object.__setattr__"))
  ga : findIn K (.ref C) "__getattribute__" = some (some (.builtin "BaseException.__getattribute__"))
  gg : findIn K (.ref C) "__getattr__" = some none
  noN : findIn K (.ref C) "value" = some none
  iC : findIn K (.ref C) "__init__" = some (some (.ref fI))
  tC : typeIn K (.ref fI) = some (.type "function")
  kC : keepIn K (.ref C) = true
  exC : subIn K (.ref C) (.type "BaseException") = some true
  tyC : typeIn K (.ref C) = some (.type "type")
  hdC : hasDictIn K C = true
  te : exmOne K (.ref C) (.ref C) = some true
  fn : ∃ (oc : Value) (od : Option Addr) (doc pm : Value) (an : Option Addr) (cdv ct : Value) (osl : Array (Option Value)) (p1 p2 q1 q2 q3 q4 : Pos),
    K.lookup fI = some ⟨oc, od, .func (fnOf "__init__" "NoIndex.__init__" (iA p1 p2) (iB q1 q2 q3 q4) iS .none .none doc pm an cdv ct), osl⟩ ∧ codeIn K cdv "NoIndex.__init__" = true
theorem one_size (v : Value) : [v].length ≤ sizeLine := by
  rw [sizeLine_eq]
  exact (by decide : 1 ≤ 16777216)
theorem kept_but {K : Frag} {h h' : Heap} {x : Addr} (X : K.In h) (hx : K.lookup x = none) (k : ∀ b o, b ≠ x → h.get? b = some o → h'.get? b = some o) : K.In h' := fun a o e =>
  k a o (fun z => by rw [z, hx] at e; cases e) (X a o e)
theorem ldC {M : Model} {s : Shared} {name : Str} {scope : Scope} {L a : Addr} {cd : Value} {m : Str → Option Value} {x : Str} {pos : Pos} {v : Value} {Q : Value → Shared → Prop} {A : Around} {E : Value → Shared → Prop} (hn : s.heap.Ns L m) (hv : m x = some v) (h : Q v s)
    (hk : scope.kind = .function := by rfl) (hl : (envOfC name scope L a cd).kindOf x = some .local := by rfl) (hd : (x == ("__debug__" : Str)) = false := by decide) :
    wpAny M A (eval (.Name x pos) (envOfC name scope L a cd)) Q E s := wpAny_Name (wpAny_loadName_local hk hl hn hv h) hd
/-- what __init__ leaves of a fresh exception at x -/
structure InitEnd (h h' : Heap) (x C dx t1 : Addr) (v : Value) : Prop where
  keep : ∀ b o, b ≠ x → h.get? b = some o → h'.get? b = some o
  obj : h'.get? x = some { cls := .ref C, dict := some dx, data := .fields #[.ref t1, .none, .none, .none, .bool false, .none] }
  dbig : h.objs.size ≤ dx
  dne : dx ≠ x
  ns : h'.Ns1 dx (fun y => if y = "value" then some v else none)
section
variable {prog : Program} {w : World} {A : Around} {E : Value → Shared → Prop} {R : Result → Shared → Prop} {s : Shared} {K : Frag} {mg : Str → Option Value} {C fI : Addr}
theorem c_init (T : NoIndexTxt K mg C fI) {x t0 : Addr} {v : Value} (X : K.In s.heap) (hlim : s.heap.NoLimit) (hx : s.heap.get? x = some (excO C t0)) (hnx : K.lookup x = none) (hroom : A.depth < recursionLimit)
    (hq : ∀ h' tk dx, InitEnd s.heap h' x C dx t0 v → R (.ok (.ret .none)) { s with heap := h', toks := tk }) :
    codeAny (model prog w) A (.call (.ref fI) ⟨[.ref x, v], []⟩) R s := by
  obtain ⟨oc, od, doc, pm, an, cdv, ct, osl, p1, p2, q1, q2, q3, q4, ho, hcd⟩ := T.fn
  obtain ⟨nm, q, N, bs, bm, sn, sub, ab, col, dd, k0, k1, k2, k3, k5, hC, hbm⟩ := T.cls
  have hcl : clsIn K C = some { name := nm, bases := bs, mro := .ref C :: bm, ns := N, qualname := q, hasDict := true, slotNames := sn, subclasses := sub, abstract := ab, collection := col, hasDel := false } := by unfold clsIn; rw [hC] <;> rfl
  refine Att.call_fn (binds := [("self", .ref x), ("value", v)]) X hlim ho hcd hroom (BindsTo.of_eq (by first | rfl | with_unfolding_all rfl)) (by first | rfl | decide | with_unfolding_all rfl) (fun s₁ IC => ?_) rfl rfl rfl
  obtain ⟨h₁, tk₁, rfl⟩ := IC.toInCall.same
  have k : ∀ b o, s.heap.get? b = some o → h₁.get? b = some o := IC.toInCall.keep
  have hn := IC.toInCall.ns
  have hxL : s.heap.objs.size ≠ x := Nat.ne_of_gt (Heap.lt_size hx)
  have X₁ : K.In h₁ := X.keeps k
  have hx₁ := k _ _ hx
  -- self.by = by
  show wpAny _ _ (execs _ _) _ _ _
  refine wpAny_execs_cons (plainObj_wpAny_Assign_Attribute ?_)
  refine ldC (v := v) hn (by first | rfl | with_unfolding_all rfl | kernel_rfl) (ldC (v := .ref x) hn (by first | rfl | with_unfolding_all rfl | kernel_rfl) ?_)
  refine set_plain X₁ (ox := excO C t0) (od := none) ⟨hx₁, rfl, rfl, trivial⟩ T.sa ?_
  refine Gd.osaX (fun self => F.store_LookupError.passes self) (by decide +kernel) X₁ hx₁ hcl (show excTail exTl (.ref C :: bm) = true from hbm) rfl T.noN (fun h₃ tk₃ dx k₃ dn dne hx₃ hn₃ => ?_)
  show wpAny _ _ (execs _ _) _ _ _
  have z : s.heap.objs.size < h₁.objs.size := hn.lt
  exact wpAny_execs_nil (hq h₃ tk₃ dx ⟨fun b o hb e => k₃ b o hb (k b o e), hx₃, Nat.le_of_lt (Nat.lt_of_lt_of_le z dn), dne, hn₃⟩)
theorem c_made (T : NoIndexTxt K mg C fI) {v : Value} (X : K.In s.heap) (hlim : s.heap.NoLimit) (hroom : A.depth + 1 < recursionLimit)
    (hq : ∀ h' tk e d, Gd.OwnMade "value" s.heap h' e C d v → R (.ok (.ret (.ref e))) { s with heap := h', toks := tk }) :
    codeAny (model prog w) A (.call (.ref C) ⟨[v], []⟩) R s := by
  obtain ⟨nm, q, N, bs, bm, sn, sub, ab, col, dd, k0, k1, k2, k3, k5, hC, hbm⟩ := T.cls
  obtain ⟨hp, g, dr, tk, os⟩ := s
  have k : ∀ b o, hp.get? b = some o → ((hp.push (kdv_tup [v])).push (excO C hp.objs.size)).get? b = some o := fun b o e => Heap.get?_push_of_some _ (Heap.get?_push_of_some _ e)
  have hget : ((hp.push (kdv_tup [v])).push (excO C hp.objs.size)).get? (hp.objs.size + 1) = some (excO C hp.objs.size) := by heap_get
  have hnx : K.lookup (hp.objs.size + 1) = none := by
    cases e : K.lookup (hp.objs.size + 1) with
    | none => rfl
    | some o =>
      have z : hp.get? (hp.objs.size + 1) = some o := X _ _ e
      exact absurd (Nat.lt_of_succ_lt (Heap.lt_size z)) (Nat.lt_irrefl _)
  refine call_own F.excBase_LookupError (fun X => excTail_contains X bm hbm) (X _ _ hC) (looks_findIn X T.iC) (fun self => bind_fn X self T.tC) (one_size v) ?_
  refine c_init (s := ⟨(hp.push (kdv_tup [v])).push (excO C hp.objs.size), g, dr, tk, os⟩) T (X.keeps k) (hlim.keeps k) hget hnx ?_ fun h' tk' dx ⟨k', hx, dn, dne, hns⟩ => ?_
  · show A.depth + 1 < recursionLimit
    exact hroom
  · have old : ∀ b o, hp.get? b = some o → h'.get? b = some o := fun b o e => k' b o (Nat.ne_of_lt (Nat.lt_succ_of_lt (Heap.lt_size e))) (k b o e)
    have z : hp.objs.size + 1 + 1 ≤ dx := by
      first
        | (simpa only [Heap.size_push] using dn)
        | exact dn
        | (have q := dn; rw [Heap.size_push, Heap.size_push] at q; exact q)
    exact ⟨rfl, hq h' tk' (hp.objs.size + 1) dx ⟨old, Nat.le_succ _, ⟨_, _, hx, rfl, rfl, rfl⟩, Nat.le_trans (Nat.le_trans (Nat.le_succ _) (Nat.le_succ _)) z, dne, hns⟩⟩
end
end NoIndexX
end PySem
namespace PySem
namespace NoVersionX
open PySem.W PySem.Calls PyProof.Rows PySem.HandSPX
abbrev exTl : List Value := [.type "LookupError", .type "Exception", .type "BaseException", .type "object"]
/-! ### the text of __init__ -/
def iA (p1 p2 : Pos) : Arguments := { posonlyargs := [], args := [{ arg := "self", annotation := none, pos := p1 }, { arg := "value", annotation := none, pos := p2 }], vararg := none, kwonlyargs := [], kw_defaults := [], kwarg := none, defaults := [] }
def iB (q1 q2 q3 q4 : Pos) : List Stmt := [.Assign [.Attribute (.Name "self" q1) "value" q2] (.Name "value" q3) q4]
def iS : Scope := { kind := .function, names := [(PySem.Str.ofString "self", .local), (PySem.Str.ofString "value", .local)], isGenerator := false, isCoroutine := false, more := [] }
/-- what the written part says of Low, at C, and of its __init__, at fI -/
structure NoVersionTxt (K : Frag) (mg : Str → Option Value) (C fI : Addr) : Prop where
  gC : mg "NoVersion" = some (.ref C)
  cls : ∃ nm q N bs bm sn sub ab col dd k0 k1 k2 k3 k5, K.lookup C = some (excClassObj nm q C N bs bm true sn sub ab col dd k0 k1 k2 k3 k5 "LookupError.__new__") ∧ excTail exTl bm = true
  sa : findIn K (.ref C) "__setattr__" = some (some (.builtin "object.__setattr__"))
  ga : findIn K (.ref C) "__getattribute__" = some (some (.builtin "BaseException.__getattribute__"))
  gg : findIn K (.ref C) "__getattr__" = some none
  noN : findIn K (.ref C) "value" = some none
  iC : findIn K (.ref C) "__init__" = some (some (.ref fI))
  tC : typeIn K (.ref fI) = some (.type "function")
  kC : keepIn K (.ref C) = true
  exC : subIn K (.ref C) (.type "BaseException") = some true
  tyC : typeIn K (.ref C) = some (.type "type")
  hdC : hasDictIn K C = true
  te : exmOne K (.ref C) (.ref C) = some true
  fn : ∃ (oc : Value) (od : Option Addr) (doc pm : Value) (an : Option Addr) (cdv ct : Value) (osl : Array (Option Value)) (p1 p2 q1 q2 q3 q4 : Pos),
    K.lookup fI = some ⟨oc, od, .func (fnOf "__init__" "NoVersion.__init__" (iA p1 p2) (iB q1 q2 q3 q4) iS .none .none doc pm an cdv ct), osl⟩ ∧ codeIn K cdv "NoVersion.__init__" = true
theorem one_size (v : Value) : [v].length ≤ sizeLine := by
  rw [sizeLine_eq]
  exact (by decide : 1 ≤ 16777216)
theorem kept_but {K : Frag} {h h' : Heap} {x : Addr} (X : K.In h) (hx : K.lookup x = none) (k : ∀ b o, b ≠ x → h.get? b = some o → h'.get? b = some o) : K.In h' := fun a o e =>
  k a o (fun z => by rw [z, hx] at e; cases e) (X a o e)
theorem ldC {M : Model} {s : Shared} {name : Str} {scope : Scope} {L a : Addr} {cd : Value} {m : Str → Option Value} {x : Str} {pos : Pos} {v : Value} {Q : Value → Shared → Prop} {A : Around} {E : Value → Shared → Prop} (hn : s.heap.Ns L m) (hv : m x = some v) (h : Q v s)
    (hk : scope.kind = .function := by rfl) (hl : (envOfC name scope L a cd).kindOf x = some .local := by rfl) (hd : (x == ("__debug__" : Str)) = false := by decide) :
    wpAny M A (eval (.Name x pos) (envOfC name scope L a cd)) Q E s := wpAny_Name (wpAny_loadName_local hk hl hn hv h) hd
/-- what __init__ leaves of a fresh exception at x -/
structure InitEnd (h h' : Heap) (x C dx t1 : Addr) (v : Value) : Prop where
  keep : ∀ b o, b ≠ x → h.get? b = some o → h'.get? b = some o
  obj : h'.get? x = some { cls := .ref C, dict := some dx, data := .fields #[.ref t1, .none, .none, .none, .bool false, .none] }
  dbig : h.objs.size ≤ dx
  dne : dx ≠ x
  ns : h'.Ns1 dx (fun y => if y = "value" then some v else none)
section
variable {prog : Program} {w : World} {A : Around} {E : Value → Shared → Prop} {R : Result → Shared → Prop} {s : Shared} {K : Frag} {mg : Str → Option Value} {C fI : Addr}
theorem c_init (T : NoVersionTxt K mg C fI) {x t0 : Addr} {v : Value} (X : K.In s.heap) (hlim : s.heap.NoLimit) (hx : s.heap.get? x = some (excO C t0)) (hnx : K.lookup x = none) (hroom : A.depth < recursionLimit)
    (hq : ∀ h' tk dx, InitEnd s.heap h' x C dx t0 v → R (.ok (.ret .none)) { s with heap := h', toks := tk }) :
    codeAny (model prog w) A (.call (.ref fI) ⟨[.ref x, v], []⟩) R s := by
  obtain ⟨oc, od, doc, pm, an, cdv, ct, osl, p1, p2, q1, q2, q3, q4, ho, hcd⟩ := T.fn
  obtain ⟨nm, q, N, bs, bm, sn, sub, ab, col, dd, k0, k1, k2, k3, k5, hC, hbm⟩ := T.cls
  have hcl : clsIn K C = some { name := nm, bases := bs, mro := .ref C :: bm, ns := N, qualname := q, hasDict := true, slotNames := sn, subclasses := sub, abstract := ab, collection := col, hasDel := false } := by unfold clsIn; rw [hC] <;> rfl
  refine Att.call_fn (binds := [("self", .ref x), ("value", v)]) X hlim ho hcd hroom (BindsTo.of_eq (by first | rfl | with_unfolding_all rfl)) (by first | rfl | decide | with_unfolding_all rfl) (fun s₁ IC => ?_) rfl rfl rfl
  obtain ⟨h₁, tk₁, rfl⟩ := IC.toInCall.same
  have k : ∀ b o, s.heap.get? b = some o → h₁.get? b = some o := IC.toInCall.keep
  have hn := IC.toInCall.ns
  have hxL : s.heap.objs.size ≠ x := Nat.ne_of_gt (Heap.lt_size hx)
  have X₁ : K.In h₁ := X.keeps k
  have hx₁ := k _ _ hx
  -- self.by = by
  show wpAny _ _ (execs _ _) _ _ _
  refine wpAny_execs_cons (plainObj_wpAny_Assign_Attribute ?_)
  refine ldC (v := v) hn (by first | rfl | with_unfolding_all rfl | kernel_rfl) (ldC (v := .ref x) hn (by first | rfl | with_unfolding_all rfl | kernel_rfl) ?_)
  refine set_plain X₁ (ox := excO C t0) (od := none) ⟨hx₁, rfl, rfl, trivial⟩ T.sa ?_
  refine Gd.osaX (fun self => F.store_LookupError.passes self) (by decide +kernel) X₁ hx₁ hcl (show excTail exTl (.ref C :: bm) = true from hbm) rfl T.noN (fun h₃ tk₃ dx k₃ dn dne hx₃ hn₃ => ?_)
  show wpAny _ _ (execs _ _) _ _ _
  have z : s.heap.objs.size < h₁.objs.size := hn.lt
  exact wpAny_execs_nil (hq h₃ tk₃ dx ⟨fun b o hb e => k₃ b o hb (k b o e), hx₃, Nat.le_of_lt (Nat.lt_of_lt_of_le z dn), dne, hn₃⟩)
theorem c_made (T : NoVersionTxt K mg C fI) {v : Value} (X : K.In s.heap) (hlim : s.heap.NoLimit) (hroom : A.depth + 1 < recursionLimit)
    (hq : ∀ h' tk e d, Gd.OwnMade "value" s.heap h' e C d v → R (.ok (.ret (.ref e))) { s with heap := h', toks := tk }) :
    codeAny (model prog w) A (.call (.ref C) ⟨[v], []⟩) R s := by
  obtain ⟨nm, q, N, bs, bm, sn, sub, ab, col, dd, k0, k1, k2, k3, k5, hC, hbm⟩ := T.cls
  obtain ⟨hp, g, dr, tk, os⟩ := s
  have k : ∀ b o, hp.get? b = some o → ((hp.push (kdv_tup [v])).push (excO C hp.objs.size)).get? b = some o := fun b o e => Heap.get?_push_of_some _ (Heap.get?_push_of_some _ e)
  have hget : ((hp.push (kdv_tup [v])).push (excO C hp.objs.size)).get? (hp.objs.size + 1) = some (excO C hp.objs.size) := by heap_get
  have hnx : K.lookup (hp.objs.size + 1) = none := by
    cases e : K.lookup (hp.objs.size + 1) with
    | none => rfl
    | some o =>
      have z : hp.get? (hp.objs.size + 1) = some o := X _ _ e
      exact absurd (Nat.lt_of_succ_lt (Heap.lt_size z)) (Nat.lt_irrefl _)
  refine call_own F.excBase_LookupError (fun X => excTail_contains X bm hbm) (X _ _ hC) (looks_findIn X T.iC) (fun self => bind_fn X self T.tC) (one_size v) ?_
  refine c_init (s := ⟨(hp.push (kdv_tup [v])).push (excO C hp.objs.size), g, dr, tk, os⟩) T (X.keeps k) (hlim.keeps k) hget hnx ?_ fun h' tk' dx ⟨k', hx, dn, dne, hns⟩ => ?_
  · show A.depth + 1 < recursionLimit
    exact hroom
  · have old : ∀ b o, hp.get? b = some o → h'.get? b = some o := fun b o e => k' b o (Nat.ne_of_lt (Nat.lt_succ_of_lt (Heap.lt_size e))) (k b o e)
    have z : hp.objs.size + 1 + 1 ≤ dx := by
      first
        | (simpa only [Heap.size_push] using dn)
        | exact dn
        | (have q := dn; rw [Heap.size_push, Heap.size_push] at q; exact q)
    exact ⟨rfl, hq h' tk' (hp.objs.size + 1) dx ⟨old, Nat.le_succ _, ⟨_, _, hx, rfl, rfl, rfl⟩, Nat.le_trans (Nat.le_trans (Nat.le_succ _) (Nat.le_succ _)) z, dne, hns⟩⟩
end
end NoVersionX
end PySem
namespace Lw
open PySem PySem.Spec PyProof.Rows L2 Gd
abbrev sMade : Stmt := topS 35
abbrev sFlags : Stmt := topS 36
abbrev sFields : Stmt := topS 37
theorem scMade : FnScope ["_law_value", "_law_found"] ["_law_value"] (defScope sMade) := ⟨rfl, rfl, rfl, by decide +kernel, rfl, by decide +kernel, by decide +kernel⟩
theorem scFlags : FnScope ["_law_error", "_law_found"] ["_law_error"] (defScope sFlags) := ⟨rfl, rfl, rfl, by decide +kernel, rfl, by decide +kernel, by decide +kernel⟩
theorem scFields : FnScope ["_law_value", "_law_found"] ["_law_value"] (defScope sFields) := ⟨rfl, rfl, rfl, by decide +kernel, rfl, by decide +kernel, by decide +kernel⟩
abbrev veT : List Value := [.type "ValueError", .type "Exception", .type "BaseException", .type "object"]
/-- what the top has written of the errors' classes -/
structure Cls (K : PySem.W.Frag) (mg : Str → Option Value) (c0 c1 c2 c3 c4 c5 c6 c7 c8 c9 c10 c11 c12 c13 c14 c15 c16 c17 c18 c19 c20 : Addr) (i1 i3 i4 i5 i6 i7 i9 i14 i15 i17 i18 i19 i20 : Addr) : Prop where
  g0 : mg "NoRows" = some (.ref c0)
  x0 : PySem.W.excIn K c0 veT "ValueError.__new__" = true
  k0 : PySem.W.keepIn K (.ref c0) = true
  t1 : PySem.NotAlikeX.NotAlikeTxt K mg c1 i1
  g2 : mg "NotShape" = some (.ref c2)
  x2 : PySem.W.excIn K c2 veT "ValueError.__new__" = true
  k2 : PySem.W.keepIn K (.ref c2) = true
  t3 : PySem.BadTargetsX.BadTargetsTxt K mg c3 i3
  t4 : PySem.NoPropertyX.NoPropertyTxt K mg c4 i4
  t5 : PySem.BadWishX.BadWishTxt K mg c5 i5
  t6 : PySem.BadSizeX.BadSizeTxt K mg c6 i6
  t7 : PySem.NoClaimX.NoClaimTxt K mg c7 i7
  g8 : mg "TooManyClaims" = some (.ref c8)
  x8 : PySem.W.excIn K c8 veT "ValueError.__new__" = true
  k8 : PySem.W.keepIn K (.ref c8) = true
  t9 : PySem.ContradictionX.ContradictionTxt K mg c9 i9
  g10 : mg "Needless" = some (.ref c10)
  x10 : PySem.W.excIn K c10 veT "ValueError.__new__" = true
  k10 : PySem.W.keepIn K (.ref c10) = true
  g11 : mg "TooManyEdits" = some (.ref c11)
  x11 : PySem.W.excIn K c11 veT "ValueError.__new__" = true
  k11 : PySem.W.keepIn K (.ref c11) = true
  g12 : mg "NothingToUndo" = some (.ref c12)
  x12 : PySem.W.excIn K c12 veT "ValueError.__new__" = true
  k12 : PySem.W.keepIn K (.ref c12) = true
  g13 : mg "BadEdits" = some (.ref c13)
  x13 : PySem.W.excIn K c13 veT "ValueError.__new__" = true
  k13 : PySem.W.keepIn K (.ref c13) = true
  t14 : PySem.BadEditX.BadEditTxt K mg c14 i14
  t15 : PySem.RejectedX.RejectedTxt K mg c15 i15
  g16 : mg "Busy" = some (.ref c16)
  x16 : PySem.W.excIn K c16 veT "ValueError.__new__" = true
  k16 : PySem.W.keepIn K (.ref c16) = true
  t17 : PySem.BadTextX.BadTextTxt K mg c17 i17
  t18 : PySem.NoWindowX.NoWindowTxt K mg c18 i18
  t19 : PySem.NoIndexX.NoIndexTxt K mg c19 i19
  t20 : PySem.NoVersionX.NoVersionTxt K mg c20 i20
def clsL (c0 c1 c2 c3 c4 c5 c6 c7 c8 c9 c10 c11 c12 c13 c14 c15 c16 c17 c18 c19 c20 : Addr) : List Addr := [c0, c1, c2, c3, c4, c5, c6, c7, c8, c9, c10, c11, c12, c13, c14, c15, c16, c17, c18, c19, c20]
def spMade (cl : List Addr) : Sp := fun vs H Q _ => ∃ v, vs = [v] ∧ ∀ H' L (es : List Addr), Same H H' → H' L = some (.lst (es.map V.ref)) → H L = none → es.length = 21 → (∀ (i : Nat) (a c : Addr), es[i]? = some a → cl[i]? = some c → ErrAt H' a c) → Q (.ref L) H'
def spFlags (cl : List Addr) : Sp := fun vs H Q _ => ∃ (e c : Addr) (i : Nat), vs = [.ref e] ∧ cl[i]? = some c ∧ ErrAt H e c ∧ ∀ H' L, Same H H' → H' L = some (.lst ((List.range 21).map fun j => V.bl (decide (j = i)))) → Q (.ref L) H'
def spFields : Sp := fun vs H Q _ => ∃ v, vs = [v] ∧ ∀ H' L, Same H H' → H' L = some (.lst (List.replicate 13 v)) → Q (.ref L) H'
theorem paired_at {α β : Type} {R : α → β → Prop} {xs : List α} {ys : List β} (h : Paired R xs ys) : ∀ (i : Nat) (x : α) (y : β), xs[i]? = some x → ys[i]? = some y → R x y := paired_ix h
section
variable {P : Program} {w : World} {K : PySem.W.Frag} {mg : Str → Option Value} {base : Heap} {c0 c1 c2 c3 c4 c5 c6 c7 c8 c9 c10 c11 c12 c13 c14 c15 c16 c17 c18 c19 c20 i1 i3 i4 i5 i6 i7 i9 i14 i15 i17 i18 i19 i20 : Addr}
theorem ok_made {f : Addr} {fd : FuncData} {k : Nat} (F : Fun K "_law_made" "_law_made" sMade f fd) (T : Cls K mg c0 c1 c2 c3 c4 c5 c6 c7 c8 c9 c10 c11 c12 c13 c14 c15 c16 c17 c18 c19 c20 i1 i3 i4 i5 i6 i7 i9 i14 i15 i17 i18 i19 i20) : FnOk P w K mg base CX0 (k + 2) f fd ["_law_value"] (spMade (clsL c0 c1 c2 c3 c4 c5 c6 c7 c8 c9 c10 c11 c12 c13 c14 c15 c16 c17 c18 c19 c20)) := by
  refine F.ok (k := k + 1) scMade (fun vs H Q E h => ?_) (fun cdv A outer st H vs Q E hr h => ?_)
  · obtain ⟨v, rfl, _⟩ := h
    rfl
  · obtain ⟨v, rfl, q⟩ := h
    refine ⟨_, pss_cons (ps_set (i := 1) scMade.nd rfl (.inl rfl) (pe_lst (pa_cons (pe_exc0 PySem.F.excBase_ValueError T.x0 T.g0 T.k0 (by rfl)) (pa_cons (pe_mkV (fld := "index") (fun {s u R} h1 h2 h3 h4 => PySem.NotAlikeX.c_made T.t1 h1 h2 h3 h4) T.t1.gC T.t1.kC hr (by rfl) (pa_cons (pv 0) pa_nil)) (pa_cons (pe_exc0 PySem.F.excBase_ValueError T.x2 T.g2 T.k2 (by rfl)) (pa_cons (pe_mkV (fld := "value") (fun {s u R} h1 h2 h3 h4 => PySem.BadTargetsX.c_made T.t3 h1 h2 h3 h4) T.t3.gC T.t3.kC hr (by rfl) (pa_cons (pv 0) pa_nil)) (pa_cons (pe_mkV (fld := "name") (fun {s u R} h1 h2 h3 h4 => PySem.NoPropertyX.c_made T.t4 h1 h2 h3 h4) T.t4.gC T.t4.kC hr (by rfl) (pa_cons (pv 0) pa_nil)) (pa_cons (pe_mkV (fld := "value") (fun {s u R} h1 h2 h3 h4 => PySem.BadWishX.c_made T.t5 h1 h2 h3 h4) T.t5.gC T.t5.kC hr (by rfl) (pa_cons (pv 0) pa_nil)) pa_nil))))))))
      (pss_cons (ps_set (i := 1) scMade.nd rfl (.inl rfl) (pe_op op_cat (pv 1) (pe_lst (pa_cons (pe_mkV (fld := "value") (fun {s u R} h1 h2 h3 h4 => PySem.BadSizeX.c_made T.t6 h1 h2 h3 h4) T.t6.gC T.t6.kC hr (by rfl) (pa_cons (pv 0) pa_nil)) (pa_cons (pe_mkV (fld := "value") (fun {s u R} h1 h2 h3 h4 => PySem.NoClaimX.c_made T.t7 h1 h2 h3 h4) T.t7.gC T.t7.kC hr (by rfl) (pa_cons (pv 0) pa_nil)) (pa_cons (pe_exc0 PySem.F.excBase_ValueError T.x8 T.g8 T.k8 (by rfl)) (pa_cons (pe_mkV (fld := "ring") (fun {s u R} h1 h2 h3 h4 => PySem.ContradictionX.c_made T.t9 h1 h2 h3 h4) T.t9.gC T.t9.kC hr (by rfl) (pa_cons (pv 0) pa_nil)) (pa_cons (pe_exc0 PySem.F.excBase_ValueError T.x10 T.g10 T.k10 (by rfl)) pa_nil))))))))
      (pss_cons (ps_set (i := 1) scMade.nd rfl (.inl rfl) (pe_op op_cat (pv 1) (pe_lst (pa_cons (pe_exc0 PySem.F.excBase_ValueError T.x11 T.g11 T.k11 (by rfl)) (pa_cons (pe_exc0 PySem.F.excBase_ValueError T.x12 T.g12 T.k12 (by rfl)) (pa_cons (pe_exc0 PySem.F.excBase_ValueError T.x13 T.g13 T.k13 (by rfl)) (pa_cons (pe_mkV (fld := "index") (fun {s u R} h1 h2 h3 h4 => PySem.BadEditX.c_made T.t14 h1 h2 h3 h4) T.t14.gC T.t14.kC hr (by rfl) (pa_cons (pv 0) pa_nil)) (pa_cons (pe_mkV (fld := "index") (fun {s u R} h1 h2 h3 h4 => PySem.RejectedX.c_made T.t15 h1 h2 h3 h4) T.t15.gC T.t15.kC hr (by rfl) (pa_cons (pv 0) pa_nil)) (pa_cons (pe_exc0 PySem.F.excBase_ValueError T.x16 T.g16 T.k16 (by rfl)) pa_nil)))))))))
      (pss_one (ps_ret (pe_op op_cat (pv 1) (pe_lst (pa_cons (pe_mkV (fld := "index") (fun {s u R} h1 h2 h3 h4 => PySem.BadTextX.c_made T.t17 h1 h2 h3 h4) T.t17.gC T.t17.kC hr (by rfl) (pa_cons (pv 0) pa_nil)) (pa_cons (pe_mkV (fld := "value") (fun {s u R} h1 h2 h3 h4 => PySem.NoWindowX.c_made T.t18 h1 h2 h3 h4) T.t18.gC T.t18.kC hr (by rfl) (pa_cons (pv 0) pa_nil)) (pa_cons (pe_mkV (fld := "value") (fun {s u R} h1 h2 h3 h4 => PySem.NoIndexX.c_made T.t19 h1 h2 h3 h4) T.t19.gC T.t19.kC hr (by rfl) (pa_cons (pv 0) pa_nil)) (pa_cons (pe_mkV (fld := "value") (fun {s u R} h1 h2 h3 h4 => PySem.NoVersionX.c_made T.t20 h1 h2 h3 h4) T.t20.gC T.t20.kC hr (by rfl) (pa_cons (pv 0) pa_nil)) pa_nil)))))))))), ?_⟩
    refine fun a0 na0 => ?_
    have s1 : Same H (upd H a0 (ExO (.ref c0) a0)) := same_upd na0
    have e0 : ErrAt (upd H a0 (ExO (.ref c0) a0)) a0 c0 := .inl upd_same
    generalize upd H a0 (ExO (.ref c0) a0) = G1 at *
    refine ⟨v, rfl, v, rfl, fun d1 a1 nd1 na1 ne1 => ?_⟩
    have sd1 : Same G1 (upd G1 d1 (.xd [(("index" : Str), v)])) := same_upd nd1
    have na1' : (upd G1 d1 (.xd [(("index" : Str), v)])) a1 = none := by rw [upd_ne (Ne.symm ne1)]; exact na1
    have se1 := same_upd (o := ExD (.ref c1) a1 d1) na1'
    have s2 := sd1.trans se1
    have e1 : ErrAt (upd (upd G1 d1 (.xd [(("index" : Str), v)])) a1 (ExD (.ref c1) a1 d1)) a1 c1 := .inr ⟨d1, _, upd_same, se1 _ _ upd_same⟩
    clear sd1 se1 na1'
    generalize upd (upd G1 d1 (.xd [(("index" : Str), v)])) a1 (ExD (.ref c1) a1 d1) = G2 at *
    refine fun a2 na2 => ?_
    have s3 : Same G2 (upd G2 a2 (ExO (.ref c2) a2)) := same_upd na2
    have e2 : ErrAt (upd G2 a2 (ExO (.ref c2) a2)) a2 c2 := .inl upd_same
    generalize upd G2 a2 (ExO (.ref c2) a2) = G3 at *
    refine ⟨v, rfl, v, rfl, fun d3 a3 nd3 na3 ne3 => ?_⟩
    have sd3 : Same G3 (upd G3 d3 (.xd [(("value" : Str), v)])) := same_upd nd3
    have na3' : (upd G3 d3 (.xd [(("value" : Str), v)])) a3 = none := by rw [upd_ne (Ne.symm ne3)]; exact na3
    have se3 := same_upd (o := ExD (.ref c3) a3 d3) na3'
    have s4 := sd3.trans se3
    have e3 : ErrAt (upd (upd G3 d3 (.xd [(("value" : Str), v)])) a3 (ExD (.ref c3) a3 d3)) a3 c3 := .inr ⟨d3, _, upd_same, se3 _ _ upd_same⟩
    clear sd3 se3 na3'
    generalize upd (upd G3 d3 (.xd [(("value" : Str), v)])) a3 (ExD (.ref c3) a3 d3) = G4 at *
    refine ⟨v, rfl, v, rfl, fun d4 a4 nd4 na4 ne4 => ?_⟩
    have sd4 : Same G4 (upd G4 d4 (.xd [(("name" : Str), v)])) := same_upd nd4
    have na4' : (upd G4 d4 (.xd [(("name" : Str), v)])) a4 = none := by rw [upd_ne (Ne.symm ne4)]; exact na4
    have se4 := same_upd (o := ExD (.ref c4) a4 d4) na4'
    have s5 := sd4.trans se4
    have e4 : ErrAt (upd (upd G4 d4 (.xd [(("name" : Str), v)])) a4 (ExD (.ref c4) a4 d4)) a4 c4 := .inr ⟨d4, _, upd_same, se4 _ _ upd_same⟩
    clear sd4 se4 na4'
    generalize upd (upd G4 d4 (.xd [(("name" : Str), v)])) a4 (ExD (.ref c4) a4 d4) = G5 at *
    refine ⟨v, rfl, v, rfl, fun d5 a5 nd5 na5 ne5 => ?_⟩
    have sd5 : Same G5 (upd G5 d5 (.xd [(("value" : Str), v)])) := same_upd nd5
    have na5' : (upd G5 d5 (.xd [(("value" : Str), v)])) a5 = none := by rw [upd_ne (Ne.symm ne5)]; exact na5
    have se5 := same_upd (o := ExD (.ref c5) a5 d5) na5'
    have s6 := sd5.trans se5
    have e5 : ErrAt (upd (upd G5 d5 (.xd [(("value" : Str), v)])) a5 (ExD (.ref c5) a5 d5)) a5 c5 := .inr ⟨d5, _, upd_same, se5 _ _ upd_same⟩
    clear sd5 se5 na5'
    generalize upd (upd G5 d5 (.xd [(("value" : Str), v)])) a5 (ExD (.ref c5) a5 d5) = G6 at *
    refine ⟨by show 6 ≤ sizeLine; decide, fun m0 nm0 => ?_⟩
    have s7 : Same G6 (upd G6 m0 (.lst [V.ref a0, V.ref a1, V.ref a2, V.ref a3, V.ref a4, V.ref a5])) := same_upd nm0
    have em0 : (upd G6 m0 (.lst [V.ref a0, V.ref a1, V.ref a2, V.ref a3, V.ref a4, V.ref a5])) m0 = some (.lst [V.ref a0, V.ref a1, V.ref a2, V.ref a3, V.ref a4, V.ref a5]) := upd_same
    generalize upd G6 m0 (.lst [V.ref a0, V.ref a1, V.ref a2, V.ref a3, V.ref a4, V.ref a5]) = G7 at *
    have el0 := em0
    have ln0 : True := trivial
    obtain ⟨l0, hl0⟩ : ∃ l, l = m0 := ⟨_, rfl⟩
    subst hl0
    refine ⟨.ref l0, rfl, ?_⟩
    refine ⟨v, rfl, v, rfl, fun d6 a6 nd6 na6 ne6 => ?_⟩
    have sd6 : Same G7 (upd G7 d6 (.xd [(("value" : Str), v)])) := same_upd nd6
    have na6' : (upd G7 d6 (.xd [(("value" : Str), v)])) a6 = none := by rw [upd_ne (Ne.symm ne6)]; exact na6
    have se6 := same_upd (o := ExD (.ref c6) a6 d6) na6'
    have s8 := sd6.trans se6
    have e6 : ErrAt (upd (upd G7 d6 (.xd [(("value" : Str), v)])) a6 (ExD (.ref c6) a6 d6)) a6 c6 := .inr ⟨d6, _, upd_same, se6 _ _ upd_same⟩
    clear sd6 se6 na6'
    generalize upd (upd G7 d6 (.xd [(("value" : Str), v)])) a6 (ExD (.ref c6) a6 d6) = G8 at *
    refine ⟨v, rfl, v, rfl, fun d7 a7 nd7 na7 ne7 => ?_⟩
    have sd7 : Same G8 (upd G8 d7 (.xd [(("value" : Str), v)])) := same_upd nd7
    have na7' : (upd G8 d7 (.xd [(("value" : Str), v)])) a7 = none := by rw [upd_ne (Ne.symm ne7)]; exact na7
    have se7 := same_upd (o := ExD (.ref c7) a7 d7) na7'
    have s9 := sd7.trans se7
    have e7 : ErrAt (upd (upd G8 d7 (.xd [(("value" : Str), v)])) a7 (ExD (.ref c7) a7 d7)) a7 c7 := .inr ⟨d7, _, upd_same, se7 _ _ upd_same⟩
    clear sd7 se7 na7'
    generalize upd (upd G8 d7 (.xd [(("value" : Str), v)])) a7 (ExD (.ref c7) a7 d7) = G9 at *
    refine fun a8 na8 => ?_
    have s10 : Same G9 (upd G9 a8 (ExO (.ref c8) a8)) := same_upd na8
    have e8 : ErrAt (upd G9 a8 (ExO (.ref c8) a8)) a8 c8 := .inl upd_same
    generalize upd G9 a8 (ExO (.ref c8) a8) = G10 at *
    refine ⟨v, rfl, v, rfl, fun d9 a9 nd9 na9 ne9 => ?_⟩
    have sd9 : Same G10 (upd G10 d9 (.xd [(("ring" : Str), v)])) := same_upd nd9
    have na9' : (upd G10 d9 (.xd [(("ring" : Str), v)])) a9 = none := by rw [upd_ne (Ne.symm ne9)]; exact na9
    have se9 := same_upd (o := ExD (.ref c9) a9 d9) na9'
    have s11 := sd9.trans se9
    have e9 : ErrAt (upd (upd G10 d9 (.xd [(("ring" : Str), v)])) a9 (ExD (.ref c9) a9 d9)) a9 c9 := .inr ⟨d9, _, upd_same, se9 _ _ upd_same⟩
    clear sd9 se9 na9'
    generalize upd (upd G10 d9 (.xd [(("ring" : Str), v)])) a9 (ExD (.ref c9) a9 d9) = G11 at *
    refine fun a10 na10 => ?_
    have s12 : Same G11 (upd G11 a10 (ExO (.ref c10) a10)) := same_upd na10
    have e10 : ErrAt (upd G11 a10 (ExO (.ref c10) a10)) a10 c10 := .inl upd_same
    generalize upd G11 a10 (ExO (.ref c10) a10) = G12 at *
    refine ⟨by show 5 ≤ sizeLine; decide, fun m1 nm1 => ?_⟩
    have s13 : Same G12 (upd G12 m1 (.lst [V.ref a6, V.ref a7, V.ref a8, V.ref a9, V.ref a10])) := same_upd nm1
    have em1 : (upd G12 m1 (.lst [V.ref a6, V.ref a7, V.ref a8, V.ref a9, V.ref a10])) m1 = some (.lst [V.ref a6, V.ref a7, V.ref a8, V.ref a9, V.ref a10]) := upd_same
    generalize upd G12 m1 (.lst [V.ref a6, V.ref a7, V.ref a8, V.ref a9, V.ref a10]) = G13 at *
    refine ⟨l0, m1, _, _, rfl, rfl, (((((s8.trans s9).trans s10).trans s11).trans s12).trans s13) _ _ el0, em1, by show 11 ≤ sizeLine; decide, fun l1 nl1 => ?_⟩
    have s14 : Same G13 (upd G13 l1 (.lst ([V.ref a0, V.ref a1, V.ref a2, V.ref a3, V.ref a4, V.ref a5] ++ [V.ref a6, V.ref a7, V.ref a8, V.ref a9, V.ref a10]))) := same_upd nl1
    have el1 : (upd G13 l1 (.lst ([V.ref a0, V.ref a1, V.ref a2, V.ref a3, V.ref a4, V.ref a5] ++ [V.ref a6, V.ref a7, V.ref a8, V.ref a9, V.ref a10]))) l1 = some (.lst ([V.ref a0, V.ref a1, V.ref a2, V.ref a3, V.ref a4, V.ref a5] ++ [V.ref a6, V.ref a7, V.ref a8, V.ref a9, V.ref a10])) := upd_same
    generalize upd G13 l1 (.lst ([V.ref a0, V.ref a1, V.ref a2, V.ref a3, V.ref a4, V.ref a5] ++ [V.ref a6, V.ref a7, V.ref a8, V.ref a9, V.ref a10])) = G14 at *
    refine ⟨.ref l1, rfl, ?_⟩
    refine fun a11 na11 => ?_
    have s15 : Same G14 (upd G14 a11 (ExO (.ref c11) a11)) := same_upd na11
    have e11 : ErrAt (upd G14 a11 (ExO (.ref c11) a11)) a11 c11 := .inl upd_same
    generalize upd G14 a11 (ExO (.ref c11) a11) = G15 at *
    refine fun a12 na12 => ?_
    have s16 : Same G15 (upd G15 a12 (ExO (.ref c12) a12)) := same_upd na12
    have e12 : ErrAt (upd G15 a12 (ExO (.ref c12) a12)) a12 c12 := .inl upd_same
    generalize upd G15 a12 (ExO (.ref c12) a12) = G16 at *
    refine fun a13 na13 => ?_
    have s17 : Same G16 (upd G16 a13 (ExO (.ref c13) a13)) := same_upd na13
    have e13 : ErrAt (upd G16 a13 (ExO (.ref c13) a13)) a13 c13 := .inl upd_same
    generalize upd G16 a13 (ExO (.ref c13) a13) = G17 at *
    refine ⟨v, rfl, v, rfl, fun d14 a14 nd14 na14 ne14 => ?_⟩
    have sd14 : Same G17 (upd G17 d14 (.xd [(("index" : Str), v)])) := same_upd nd14
    have na14' : (upd G17 d14 (.xd [(("index" : Str), v)])) a14 = none := by rw [upd_ne (Ne.symm ne14)]; exact na14
    have se14 := same_upd (o := ExD (.ref c14) a14 d14) na14'
    have s18 := sd14.trans se14
    have e14 : ErrAt (upd (upd G17 d14 (.xd [(("index" : Str), v)])) a14 (ExD (.ref c14) a14 d14)) a14 c14 := .inr ⟨d14, _, upd_same, se14 _ _ upd_same⟩
    clear sd14 se14 na14'
    generalize upd (upd G17 d14 (.xd [(("index" : Str), v)])) a14 (ExD (.ref c14) a14 d14) = G18 at *
    refine ⟨v, rfl, v, rfl, fun d15 a15 nd15 na15 ne15 => ?_⟩
    have sd15 : Same G18 (upd G18 d15 (.xd [(("index" : Str), v)])) := same_upd nd15
    have na15' : (upd G18 d15 (.xd [(("index" : Str), v)])) a15 = none := by rw [upd_ne (Ne.symm ne15)]; exact na15
    have se15 := same_upd (o := ExD (.ref c15) a15 d15) na15'
    have s19 := sd15.trans se15
    have e15 : ErrAt (upd (upd G18 d15 (.xd [(("index" : Str), v)])) a15 (ExD (.ref c15) a15 d15)) a15 c15 := .inr ⟨d15, _, upd_same, se15 _ _ upd_same⟩
    clear sd15 se15 na15'
    generalize upd (upd G18 d15 (.xd [(("index" : Str), v)])) a15 (ExD (.ref c15) a15 d15) = G19 at *
    refine fun a16 na16 => ?_
    have s20 : Same G19 (upd G19 a16 (ExO (.ref c16) a16)) := same_upd na16
    have e16 : ErrAt (upd G19 a16 (ExO (.ref c16) a16)) a16 c16 := .inl upd_same
    generalize upd G19 a16 (ExO (.ref c16) a16) = G20 at *
    refine ⟨by show 6 ≤ sizeLine; decide, fun m2 nm2 => ?_⟩
    have s21 : Same G20 (upd G20 m2 (.lst [V.ref a11, V.ref a12, V.ref a13, V.ref a14, V.ref a15, V.ref a16])) := same_upd nm2
    have em2 : (upd G20 m2 (.lst [V.ref a11, V.ref a12, V.ref a13, V.ref a14, V.ref a15, V.ref a16])) m2 = some (.lst [V.ref a11, V.ref a12, V.ref a13, V.ref a14, V.ref a15, V.ref a16]) := upd_same
    generalize upd G20 m2 (.lst [V.ref a11, V.ref a12, V.ref a13, V.ref a14, V.ref a15, V.ref a16]) = G21 at *
    refine ⟨l1, m2, _, _, rfl, rfl, ((((((s15.trans s16).trans s17).trans s18).trans s19).trans s20).trans s21) _ _ el1, em2, by show 17 ≤ sizeLine; decide, fun l2 nl2 => ?_⟩
    have s22 : Same G21 (upd G21 l2 (.lst (([V.ref a0, V.ref a1, V.ref a2, V.ref a3, V.ref a4, V.ref a5] ++ [V.ref a6, V.ref a7, V.ref a8, V.ref a9, V.ref a10]) ++ [V.ref a11, V.ref a12, V.ref a13, V.ref a14, V.ref a15, V.ref a16]))) := same_upd nl2
    have el2 : (upd G21 l2 (.lst (([V.ref a0, V.ref a1, V.ref a2, V.ref a3, V.ref a4, V.ref a5] ++ [V.ref a6, V.ref a7, V.ref a8, V.ref a9, V.ref a10]) ++ [V.ref a11, V.ref a12, V.ref a13, V.ref a14, V.ref a15, V.ref a16]))) l2 = some (.lst (([V.ref a0, V.ref a1, V.ref a2, V.ref a3, V.ref a4, V.ref a5] ++ [V.ref a6, V.ref a7, V.ref a8, V.ref a9, V.ref a10]) ++ [V.ref a11, V.ref a12, V.ref a13, V.ref a14, V.ref a15, V.ref a16])) := upd_same
    generalize upd G21 l2 (.lst (([V.ref a0, V.ref a1, V.ref a2, V.ref a3, V.ref a4, V.ref a5] ++ [V.ref a6, V.ref a7, V.ref a8, V.ref a9, V.ref a10]) ++ [V.ref a11, V.ref a12, V.ref a13, V.ref a14, V.ref a15, V.ref a16])) = G22 at *
    refine ⟨.ref l2, rfl, ?_⟩
    refine ⟨v, rfl, v, rfl, fun d17 a17 nd17 na17 ne17 => ?_⟩
    have sd17 : Same G22 (upd G22 d17 (.xd [(("index" : Str), v)])) := same_upd nd17
    have na17' : (upd G22 d17 (.xd [(("index" : Str), v)])) a17 = none := by rw [upd_ne (Ne.symm ne17)]; exact na17
    have se17 := same_upd (o := ExD (.ref c17) a17 d17) na17'
    have s23 := sd17.trans se17
    have e17 : ErrAt (upd (upd G22 d17 (.xd [(("index" : Str), v)])) a17 (ExD (.ref c17) a17 d17)) a17 c17 := .inr ⟨d17, _, upd_same, se17 _ _ upd_same⟩
    clear sd17 se17 na17'
    generalize upd (upd G22 d17 (.xd [(("index" : Str), v)])) a17 (ExD (.ref c17) a17 d17) = G23 at *
    refine ⟨v, rfl, v, rfl, fun d18 a18 nd18 na18 ne18 => ?_⟩
    have sd18 : Same G23 (upd G23 d18 (.xd [(("value" : Str), v)])) := same_upd nd18
    have na18' : (upd G23 d18 (.xd [(("value" : Str), v)])) a18 = none := by rw [upd_ne (Ne.symm ne18)]; exact na18
    have se18 := same_upd (o := ExD (.ref c18) a18 d18) na18'
    have s24 := sd18.trans se18
    have e18 : ErrAt (upd (upd G23 d18 (.xd [(("value" : Str), v)])) a18 (ExD (.ref c18) a18 d18)) a18 c18 := .inr ⟨d18, _, upd_same, se18 _ _ upd_same⟩
    clear sd18 se18 na18'
    generalize upd (upd G23 d18 (.xd [(("value" : Str), v)])) a18 (ExD (.ref c18) a18 d18) = G24 at *
    refine ⟨v, rfl, v, rfl, fun d19 a19 nd19 na19 ne19 => ?_⟩
    have sd19 : Same G24 (upd G24 d19 (.xd [(("value" : Str), v)])) := same_upd nd19
    have na19' : (upd G24 d19 (.xd [(("value" : Str), v)])) a19 = none := by rw [upd_ne (Ne.symm ne19)]; exact na19
    have se19 := same_upd (o := ExD (.ref c19) a19 d19) na19'
    have s25 := sd19.trans se19
    have e19 : ErrAt (upd (upd G24 d19 (.xd [(("value" : Str), v)])) a19 (ExD (.ref c19) a19 d19)) a19 c19 := .inr ⟨d19, _, upd_same, se19 _ _ upd_same⟩
    clear sd19 se19 na19'
    generalize upd (upd G24 d19 (.xd [(("value" : Str), v)])) a19 (ExD (.ref c19) a19 d19) = G25 at *
    refine ⟨v, rfl, v, rfl, fun d20 a20 nd20 na20 ne20 => ?_⟩
    have sd20 : Same G25 (upd G25 d20 (.xd [(("value" : Str), v)])) := same_upd nd20
    have na20' : (upd G25 d20 (.xd [(("value" : Str), v)])) a20 = none := by rw [upd_ne (Ne.symm ne20)]; exact na20
    have se20 := same_upd (o := ExD (.ref c20) a20 d20) na20'
    have s26 := sd20.trans se20
    have e20 : ErrAt (upd (upd G25 d20 (.xd [(("value" : Str), v)])) a20 (ExD (.ref c20) a20 d20)) a20 c20 := .inr ⟨d20, _, upd_same, se20 _ _ upd_same⟩
    clear sd20 se20 na20'
    generalize upd (upd G25 d20 (.xd [(("value" : Str), v)])) a20 (ExD (.ref c20) a20 d20) = G26 at *
    refine ⟨by show 4 ≤ sizeLine; decide, fun m3 nm3 => ?_⟩
    have s27 : Same G26 (upd G26 m3 (.lst [V.ref a17, V.ref a18, V.ref a19, V.ref a20])) := same_upd nm3
    have em3 : (upd G26 m3 (.lst [V.ref a17, V.ref a18, V.ref a19, V.ref a20])) m3 = some (.lst [V.ref a17, V.ref a18, V.ref a19, V.ref a20]) := upd_same
    generalize upd G26 m3 (.lst [V.ref a17, V.ref a18, V.ref a19, V.ref a20]) = G27 at *
    refine ⟨l2, m3, _, _, rfl, rfl, ((((s23.trans s24).trans s25).trans s26).trans s27) _ _ el2, em3, by show 21 ≤ sizeLine; decide, fun l3 nl3 => ?_⟩
    have s28 : Same G27 (upd G27 l3 (.lst ((([V.ref a0, V.ref a1, V.ref a2, V.ref a3, V.ref a4, V.ref a5] ++ [V.ref a6, V.ref a7, V.ref a8, V.ref a9, V.ref a10]) ++ [V.ref a11, V.ref a12, V.ref a13, V.ref a14, V.ref a15, V.ref a16]) ++ [V.ref a17, V.ref a18, V.ref a19, V.ref a20]))) := same_upd nl3
    have el3 : (upd G27 l3 (.lst ((([V.ref a0, V.ref a1, V.ref a2, V.ref a3, V.ref a4, V.ref a5] ++ [V.ref a6, V.ref a7, V.ref a8, V.ref a9, V.ref a10]) ++ [V.ref a11, V.ref a12, V.ref a13, V.ref a14, V.ref a15, V.ref a16]) ++ [V.ref a17, V.ref a18, V.ref a19, V.ref a20]))) l3 = some (.lst ((([V.ref a0, V.ref a1, V.ref a2, V.ref a3, V.ref a4, V.ref a5] ++ [V.ref a6, V.ref a7, V.ref a8, V.ref a9, V.ref a10]) ++ [V.ref a11, V.ref a12, V.ref a13, V.ref a14, V.ref a15, V.ref a16]) ++ [V.ref a17, V.ref a18, V.ref a19, V.ref a20])) := upd_same
    generalize upd G27 l3 (.lst ((([V.ref a0, V.ref a1, V.ref a2, V.ref a3, V.ref a4, V.ref a5] ++ [V.ref a6, V.ref a7, V.ref a8, V.ref a9, V.ref a10]) ++ [V.ref a11, V.ref a12, V.ref a13, V.ref a14, V.ref a15, V.ref a16]) ++ [V.ref a17, V.ref a18, V.ref a19, V.ref a20])) = G28 at *
    have t28 := Same.refl G28
    have t27 := s28.trans t28
    have t26 := s27.trans t27
    have t25 := s26.trans t26
    have t24 := s25.trans t25
    have t23 := s24.trans t24
    have t22 := s23.trans t23
    have t21 := s22.trans t22
    have t20 := s21.trans t21
    have t19 := s20.trans t20
    have t18 := s19.trans t19
    have t17 := s18.trans t18
    have t16 := s17.trans t17
    have t15 := s16.trans t16
    have t14 := s15.trans t15
    have t13 := s14.trans t14
    have t12 := s13.trans t13
    have t11 := s12.trans t12
    have t10 := s11.trans t11
    have t9 := s10.trans t10
    have t8 := s9.trans t9
    have t7 := s8.trans t8
    have t6 := s7.trans t7
    have t5 := s6.trans t6
    have t4 := s5.trans t5
    have t3 := s4.trans t4
    have t2 := s3.trans t3
    have t1 := s2.trans t2
    have t0 := s1.trans t1
    have u0 := Same.refl H
    have u1 := u0.trans s1
    have u2 := u1.trans s2
    have u3 := u2.trans s3
    have u4 := u3.trans s4
    have u5 := u4.trans s5
    have u6 := u5.trans s6
    have u7 := u6.trans s7
    have u8 := u7.trans s8
    have u9 := u8.trans s9
    have u10 := u9.trans s10
    have u11 := u10.trans s11
    have u12 := u11.trans s12
    have u13 := u12.trans s13
    have u14 := u13.trans s14
    have u15 := u14.trans s15
    have u16 := u15.trans s16
    have u17 := u16.trans s17
    have u18 := u17.trans s18
    have u19 := u18.trans s19
    have u20 := u19.trans s20
    have u21 := u20.trans s21
    have u22 := u21.trans s22
    have u23 := u22.trans s23
    have u24 := u23.trans s24
    have u25 := u24.trans s25
    have u26 := u25.trans s26
    have u27 := u26.trans s27
    have all : Paired (ErrAt G28) [a0, a1, a2, a3, a4, a5, a6, a7, a8, a9, a10, a11, a12, a13, a14, a15, a16, a17, a18, a19, a20] (clsL c0 c1 c2 c3 c4 c5 c6 c7 c8 c9 c10 c11 c12 c13 c14 c15 c16 c17 c18 c19 c20) := (.cons (e0.keep t1) (.cons (e1.keep t2) (.cons (e2.keep t3) (.cons (e3.keep t4) (.cons (e4.keep t5) (.cons (e5.keep t6) (.cons (e6.keep t8) (.cons (e7.keep t9) (.cons (e8.keep t10) (.cons (e9.keep t11) (.cons (e10.keep t12) (.cons (e11.keep t15) (.cons (e12.keep t16) (.cons (e13.keep t17) (.cons (e14.keep t18) (.cons (e15.keep t19) (.cons (e16.keep t20) (.cons (e17.keep t23) (.cons (e18.keep t24) (.cons (e19.keep t25) (.cons (e20.keep t26) .nil)))))))))))))))))))))
    exact q G28 l3 [a0, a1, a2, a3, a4, a5, a6, a7, a8, a9, a10, a11, a12, a13, a14, a15, a16, a17, a18, a19, a20] t0 el3 (u27.free nl3) rfl (paired_at all)
theorem ok_flags {f : Addr} {fd : FuncData} {k : Nat} (F : Fun K "_law_flags" "_law_flags" sFlags f fd) (T : Cls K mg c0 c1 c2 c3 c4 c5 c6 c7 c8 c9 c10 c11 c12 c13 c14 c15 c16 c17 c18 c19 c20 i1 i3 i4 i5 i6 i7 i9 i14 i15 i17 i18 i19 i20) (mi : mg "isinstance" = none) (EV : ∀ c ∈ clsL c0 c1 c2 c3 c4 c5 c6 c7 c8 c9 c10 c11 c12 c13 c14 c15 c16 c17 c18 c19 c20, ExcV K c)
    (kit : ∀ (i j : Nat) (c c' : Addr), (clsL c0 c1 c2 c3 c4 c5 c6 c7 c8 c9 c10 c11 c12 c13 c14 c15 c16 c17 c18 c19 c20)[i]? = some c → (clsL c0 c1 c2 c3 c4 c5 c6 c7 c8 c9 c10 c11 c12 c13 c14 c15 c16 c17 c18 c19 c20)[j]? = some c' → PySem.W.kitOne K (.ref c) (.ref c') = some (decide (j = i))) : FnOk P w K mg base CX0 (k + 1) f fd ["_law_error"] (spFlags (clsL c0 c1 c2 c3 c4 c5 c6 c7 c8 c9 c10 c11 c12 c13 c14 c15 c16 c17 c18 c19 c20)) := by
  refine F.ok scFlags (fun vs H Q E h => ?_) (fun cdv A outer st H vs Q E hr h => ?_)
  · obtain ⟨e, c, i, rfl, _⟩ := h
    rfl
  · obtain ⟨e, c, i, rfl, hc, er, q⟩ := h
    refine ⟨_, pss_cons (ps_set (i := 1) scFlags.nd rfl (.inl rfl) (pe_lst (pa_cons (pe_callB call_isV (by rfl) mi (by decide +kernel) (pa_cons (pv 0) (pa_cons (pe_glob (v := .ref c0) rfl T.g0 rfl) pa_nil))) (pa_cons (pe_callB call_isV (by rfl) mi (by decide +kernel) (pa_cons (pv 0) (pa_cons (pe_glob (v := .ref c1) rfl T.t1.gC rfl) pa_nil))) (pa_cons (pe_callB call_isV (by rfl) mi (by decide +kernel) (pa_cons (pv 0) (pa_cons (pe_glob (v := .ref c2) rfl T.g2 rfl) pa_nil))) pa_nil)))))
      (pss_cons (ps_set (i := 1) scFlags.nd rfl (.inl rfl) (pe_op op_cat (pv 1) (pe_lst (pa_cons (pe_callB call_isV (by rfl) mi (by decide +kernel) (pa_cons (pv 0) (pa_cons (pe_glob (v := .ref c3) rfl T.t3.gC rfl) pa_nil))) (pa_cons (pe_callB call_isV (by rfl) mi (by decide +kernel) (pa_cons (pv 0) (pa_cons (pe_glob (v := .ref c4) rfl T.t4.gC rfl) pa_nil))) (pa_cons (pe_callB call_isV (by rfl) mi (by decide +kernel) (pa_cons (pv 0) (pa_cons (pe_glob (v := .ref c5) rfl T.t5.gC rfl) pa_nil))) pa_nil))))))
      (pss_cons (ps_set (i := 1) scFlags.nd rfl (.inl rfl) (pe_op op_cat (pv 1) (pe_lst (pa_cons (pe_callB call_isV (by rfl) mi (by decide +kernel) (pa_cons (pv 0) (pa_cons (pe_glob (v := .ref c6) rfl T.t6.gC rfl) pa_nil))) (pa_cons (pe_callB call_isV (by rfl) mi (by decide +kernel) (pa_cons (pv 0) (pa_cons (pe_glob (v := .ref c7) rfl T.t7.gC rfl) pa_nil))) (pa_cons (pe_callB call_isV (by rfl) mi (by decide +kernel) (pa_cons (pv 0) (pa_cons (pe_glob (v := .ref c8) rfl T.g8 rfl) pa_nil))) pa_nil))))))
      (pss_cons (ps_set (i := 1) scFlags.nd rfl (.inl rfl) (pe_op op_cat (pv 1) (pe_lst (pa_cons (pe_callB call_isV (by rfl) mi (by decide +kernel) (pa_cons (pv 0) (pa_cons (pe_glob (v := .ref c9) rfl T.t9.gC rfl) pa_nil))) (pa_cons (pe_callB call_isV (by rfl) mi (by decide +kernel) (pa_cons (pv 0) (pa_cons (pe_glob (v := .ref c10) rfl T.g10 rfl) pa_nil))) (pa_cons (pe_callB call_isV (by rfl) mi (by decide +kernel) (pa_cons (pv 0) (pa_cons (pe_glob (v := .ref c11) rfl T.g11 rfl) pa_nil))) pa_nil))))))
      (pss_cons (ps_set (i := 1) scFlags.nd rfl (.inl rfl) (pe_op op_cat (pv 1) (pe_lst (pa_cons (pe_callB call_isV (by rfl) mi (by decide +kernel) (pa_cons (pv 0) (pa_cons (pe_glob (v := .ref c12) rfl T.g12 rfl) pa_nil))) (pa_cons (pe_callB call_isV (by rfl) mi (by decide +kernel) (pa_cons (pv 0) (pa_cons (pe_glob (v := .ref c13) rfl T.g13 rfl) pa_nil))) (pa_cons (pe_callB call_isV (by rfl) mi (by decide +kernel) (pa_cons (pv 0) (pa_cons (pe_glob (v := .ref c14) rfl T.t14.gC rfl) pa_nil))) pa_nil))))))
      (pss_cons (ps_set (i := 1) scFlags.nd rfl (.inl rfl) (pe_op op_cat (pv 1) (pe_lst (pa_cons (pe_callB call_isV (by rfl) mi (by decide +kernel) (pa_cons (pv 0) (pa_cons (pe_glob (v := .ref c15) rfl T.t15.gC rfl) pa_nil))) (pa_cons (pe_callB call_isV (by rfl) mi (by decide +kernel) (pa_cons (pv 0) (pa_cons (pe_glob (v := .ref c16) rfl T.g16 rfl) pa_nil))) (pa_cons (pe_callB call_isV (by rfl) mi (by decide +kernel) (pa_cons (pv 0) (pa_cons (pe_glob (v := .ref c17) rfl T.t17.gC rfl) pa_nil))) pa_nil))))))
      (pss_one (ps_ret (pe_op op_cat (pv 1) (pe_lst (pa_cons (pe_callB call_isV (by rfl) mi (by decide +kernel) (pa_cons (pv 0) (pa_cons (pe_glob (v := .ref c18) rfl T.t18.gC rfl) pa_nil))) (pa_cons (pe_callB call_isV (by rfl) mi (by decide +kernel) (pa_cons (pv 0) (pa_cons (pe_glob (v := .ref c19) rfl T.t19.gC rfl) pa_nil))) (pa_cons (pe_callB call_isV (by rfl) mi (by decide +kernel) (pa_cons (pv 0) (pa_cons (pe_glob (v := .ref c20) rfl T.t20.gC rfl) pa_nil))) pa_nil)))))))))))), ?_⟩
    have ev := EV c (List.mem_of_getElem? hc)
    have x0 := er
    refine ⟨.ref e, rfl, e, c, .ref c0, .ref c0, _, rfl, x0, ev, .own _, kit i 0 c c0 hc rfl, ?_⟩
    refine ⟨.ref e, rfl, e, c, .ref c1, .ref c1, _, rfl, x0, ev, .own _, kit i 1 c c1 hc rfl, ?_⟩
    refine ⟨.ref e, rfl, e, c, .ref c2, .ref c2, _, rfl, x0, ev, .own _, kit i 2 c c2 hc rfl, ?_⟩
    refine ⟨by show 3 ≤ sizeLine; decide, fun m0 nm0 => ?_⟩
    have s1 : Same H (upd H m0 (.lst [V.bl (decide (0 = i)), V.bl (decide (1 = i)), V.bl (decide (2 = i))])) := same_upd nm0
    have em0 : (upd H m0 (.lst [V.bl (decide (0 = i)), V.bl (decide (1 = i)), V.bl (decide (2 = i))])) m0 = some (.lst [V.bl (decide (0 = i)), V.bl (decide (1 = i)), V.bl (decide (2 = i))]) := upd_same
    generalize upd H m0 (.lst [V.bl (decide (0 = i)), V.bl (decide (1 = i)), V.bl (decide (2 = i))]) = G1 at *
    obtain ⟨l0, hl0⟩ : ∃ l, l = m0 := ⟨_, rfl⟩
    subst hl0
    have el0 := em0
    have x1 := x0.keep s1
    refine ⟨.ref l0, rfl, ?_⟩
    refine ⟨.ref e, rfl, e, c, .ref c3, .ref c3, _, rfl, x1, ev, .own _, kit i 3 c c3 hc rfl, ?_⟩
    refine ⟨.ref e, rfl, e, c, .ref c4, .ref c4, _, rfl, x1, ev, .own _, kit i 4 c c4 hc rfl, ?_⟩
    refine ⟨.ref e, rfl, e, c, .ref c5, .ref c5, _, rfl, x1, ev, .own _, kit i 5 c c5 hc rfl, ?_⟩
    refine ⟨by show 3 ≤ sizeLine; decide, fun m1 nm1 => ?_⟩
    have s2 : Same G1 (upd G1 m1 (.lst [V.bl (decide (3 = i)), V.bl (decide (4 = i)), V.bl (decide (5 = i))])) := same_upd nm1
    have em1 : (upd G1 m1 (.lst [V.bl (decide (3 = i)), V.bl (decide (4 = i)), V.bl (decide (5 = i))])) m1 = some (.lst [V.bl (decide (3 = i)), V.bl (decide (4 = i)), V.bl (decide (5 = i))]) := upd_same
    generalize upd G1 m1 (.lst [V.bl (decide (3 = i)), V.bl (decide (4 = i)), V.bl (decide (5 = i))]) = G2 at *
    refine ⟨l0, m1, _, _, rfl, rfl, s2 _ _ el0, em1, by show 6 ≤ sizeLine; decide, fun l1 nl1 => ?_⟩
    have x2 := x1.keep s2
    have s3 : Same G2 (upd G2 l1 (.lst ([V.bl (decide (0 = i)), V.bl (decide (1 = i)), V.bl (decide (2 = i))] ++ [V.bl (decide (3 = i)), V.bl (decide (4 = i)), V.bl (decide (5 = i))]))) := same_upd nl1
    have el1 : (upd G2 l1 (.lst ([V.bl (decide (0 = i)), V.bl (decide (1 = i)), V.bl (decide (2 = i))] ++ [V.bl (decide (3 = i)), V.bl (decide (4 = i)), V.bl (decide (5 = i))]))) l1 = some (.lst ([V.bl (decide (0 = i)), V.bl (decide (1 = i)), V.bl (decide (2 = i))] ++ [V.bl (decide (3 = i)), V.bl (decide (4 = i)), V.bl (decide (5 = i))])) := upd_same
    generalize upd G2 l1 (.lst ([V.bl (decide (0 = i)), V.bl (decide (1 = i)), V.bl (decide (2 = i))] ++ [V.bl (decide (3 = i)), V.bl (decide (4 = i)), V.bl (decide (5 = i))])) = G3 at *
    have x3 := x2.keep s3
    refine ⟨.ref l1, rfl, ?_⟩
    refine ⟨.ref e, rfl, e, c, .ref c6, .ref c6, _, rfl, x3, ev, .own _, kit i 6 c c6 hc rfl, ?_⟩
    refine ⟨.ref e, rfl, e, c, .ref c7, .ref c7, _, rfl, x3, ev, .own _, kit i 7 c c7 hc rfl, ?_⟩
    refine ⟨.ref e, rfl, e, c, .ref c8, .ref c8, _, rfl, x3, ev, .own _, kit i 8 c c8 hc rfl, ?_⟩
    refine ⟨by show 3 ≤ sizeLine; decide, fun m2 nm2 => ?_⟩
    have s4 : Same G3 (upd G3 m2 (.lst [V.bl (decide (6 = i)), V.bl (decide (7 = i)), V.bl (decide (8 = i))])) := same_upd nm2
    have em2 : (upd G3 m2 (.lst [V.bl (decide (6 = i)), V.bl (decide (7 = i)), V.bl (decide (8 = i))])) m2 = some (.lst [V.bl (decide (6 = i)), V.bl (decide (7 = i)), V.bl (decide (8 = i))]) := upd_same
    generalize upd G3 m2 (.lst [V.bl (decide (6 = i)), V.bl (decide (7 = i)), V.bl (decide (8 = i))]) = G4 at *
    refine ⟨l1, m2, _, _, rfl, rfl, s4 _ _ el1, em2, by show 9 ≤ sizeLine; decide, fun l2 nl2 => ?_⟩
    have x4 := x3.keep s4
    have s5 : Same G4 (upd G4 l2 (.lst (([V.bl (decide (0 = i)), V.bl (decide (1 = i)), V.bl (decide (2 = i))] ++ [V.bl (decide (3 = i)), V.bl (decide (4 = i)), V.bl (decide (5 = i))]) ++ [V.bl (decide (6 = i)), V.bl (decide (7 = i)), V.bl (decide (8 = i))]))) := same_upd nl2
    have el2 : (upd G4 l2 (.lst (([V.bl (decide (0 = i)), V.bl (decide (1 = i)), V.bl (decide (2 = i))] ++ [V.bl (decide (3 = i)), V.bl (decide (4 = i)), V.bl (decide (5 = i))]) ++ [V.bl (decide (6 = i)), V.bl (decide (7 = i)), V.bl (decide (8 = i))]))) l2 = some (.lst (([V.bl (decide (0 = i)), V.bl (decide (1 = i)), V.bl (decide (2 = i))] ++ [V.bl (decide (3 = i)), V.bl (decide (4 = i)), V.bl (decide (5 = i))]) ++ [V.bl (decide (6 = i)), V.bl (decide (7 = i)), V.bl (decide (8 = i))])) := upd_same
    generalize upd G4 l2 (.lst (([V.bl (decide (0 = i)), V.bl (decide (1 = i)), V.bl (decide (2 = i))] ++ [V.bl (decide (3 = i)), V.bl (decide (4 = i)), V.bl (decide (5 = i))]) ++ [V.bl (decide (6 = i)), V.bl (decide (7 = i)), V.bl (decide (8 = i))])) = G5 at *
    have x5 := x4.keep s5
    refine ⟨.ref l2, rfl, ?_⟩
    refine ⟨.ref e, rfl, e, c, .ref c9, .ref c9, _, rfl, x5, ev, .own _, kit i 9 c c9 hc rfl, ?_⟩
    refine ⟨.ref e, rfl, e, c, .ref c10, .ref c10, _, rfl, x5, ev, .own _, kit i 10 c c10 hc rfl, ?_⟩
    refine ⟨.ref e, rfl, e, c, .ref c11, .ref c11, _, rfl, x5, ev, .own _, kit i 11 c c11 hc rfl, ?_⟩
    refine ⟨by show 3 ≤ sizeLine; decide, fun m3 nm3 => ?_⟩
    have s6 : Same G5 (upd G5 m3 (.lst [V.bl (decide (9 = i)), V.bl (decide (10 = i)), V.bl (decide (11 = i))])) := same_upd nm3
    have em3 : (upd G5 m3 (.lst [V.bl (decide (9 = i)), V.bl (decide (10 = i)), V.bl (decide (11 = i))])) m3 = some (.lst [V.bl (decide (9 = i)), V.bl (decide (10 = i)), V.bl (decide (11 = i))]) := upd_same
    generalize upd G5 m3 (.lst [V.bl (decide (9 = i)), V.bl (decide (10 = i)), V.bl (decide (11 = i))]) = G6 at *
    refine ⟨l2, m3, _, _, rfl, rfl, s6 _ _ el2, em3, by show 12 ≤ sizeLine; decide, fun l3 nl3 => ?_⟩
    have x6 := x5.keep s6
    have s7 : Same G6 (upd G6 l3 (.lst ((([V.bl (decide (0 = i)), V.bl (decide (1 = i)), V.bl (decide (2 = i))] ++ [V.bl (decide (3 = i)), V.bl (decide (4 = i)), V.bl (decide (5 = i))]) ++ [V.bl (decide (6 = i)), V.bl (decide (7 = i)), V.bl (decide (8 = i))]) ++ [V.bl (decide (9 = i)), V.bl (decide (10 = i)), V.bl (decide (11 = i))]))) := same_upd nl3
    have el3 : (upd G6 l3 (.lst ((([V.bl (decide (0 = i)), V.bl (decide (1 = i)), V.bl (decide (2 = i))] ++ [V.bl (decide (3 = i)), V.bl (decide (4 = i)), V.bl (decide (5 = i))]) ++ [V.bl (decide (6 = i)), V.bl (decide (7 = i)), V.bl (decide (8 = i))]) ++ [V.bl (decide (9 = i)), V.bl (decide (10 = i)), V.bl (decide (11 = i))]))) l3 = some (.lst ((([V.bl (decide (0 = i)), V.bl (decide (1 = i)), V.bl (decide (2 = i))] ++ [V.bl (decide (3 = i)), V.bl (decide (4 = i)), V.bl (decide (5 = i))]) ++ [V.bl (decide (6 = i)), V.bl (decide (7 = i)), V.bl (decide (8 = i))]) ++ [V.bl (decide (9 = i)), V.bl (decide (10 = i)), V.bl (decide (11 = i))])) := upd_same
    generalize upd G6 l3 (.lst ((([V.bl (decide (0 = i)), V.bl (decide (1 = i)), V.bl (decide (2 = i))] ++ [V.bl (decide (3 = i)), V.bl (decide (4 = i)), V.bl (decide (5 = i))]) ++ [V.bl (decide (6 = i)), V.bl (decide (7 = i)), V.bl (decide (8 = i))]) ++ [V.bl (decide (9 = i)), V.bl (decide (10 = i)), V.bl (decide (11 = i))])) = G7 at *
    have x7 := x6.keep s7
    refine ⟨.ref l3, rfl, ?_⟩
    refine ⟨.ref e, rfl, e, c, .ref c12, .ref c12, _, rfl, x7, ev, .own _, kit i 12 c c12 hc rfl, ?_⟩
    refine ⟨.ref e, rfl, e, c, .ref c13, .ref c13, _, rfl, x7, ev, .own _, kit i 13 c c13 hc rfl, ?_⟩
    refine ⟨.ref e, rfl, e, c, .ref c14, .ref c14, _, rfl, x7, ev, .own _, kit i 14 c c14 hc rfl, ?_⟩
    refine ⟨by show 3 ≤ sizeLine; decide, fun m4 nm4 => ?_⟩
    have s8 : Same G7 (upd G7 m4 (.lst [V.bl (decide (12 = i)), V.bl (decide (13 = i)), V.bl (decide (14 = i))])) := same_upd nm4
    have em4 : (upd G7 m4 (.lst [V.bl (decide (12 = i)), V.bl (decide (13 = i)), V.bl (decide (14 = i))])) m4 = some (.lst [V.bl (decide (12 = i)), V.bl (decide (13 = i)), V.bl (decide (14 = i))]) := upd_same
    generalize upd G7 m4 (.lst [V.bl (decide (12 = i)), V.bl (decide (13 = i)), V.bl (decide (14 = i))]) = G8 at *
    refine ⟨l3, m4, _, _, rfl, rfl, s8 _ _ el3, em4, by show 15 ≤ sizeLine; decide, fun l4 nl4 => ?_⟩
    have x8 := x7.keep s8
    have s9 : Same G8 (upd G8 l4 (.lst (((([V.bl (decide (0 = i)), V.bl (decide (1 = i)), V.bl (decide (2 = i))] ++ [V.bl (decide (3 = i)), V.bl (decide (4 = i)), V.bl (decide (5 = i))]) ++ [V.bl (decide (6 = i)), V.bl (decide (7 = i)), V.bl (decide (8 = i))]) ++ [V.bl (decide (9 = i)), V.bl (decide (10 = i)), V.bl (decide (11 = i))]) ++ [V.bl (decide (12 = i)), V.bl (decide (13 = i)), V.bl (decide (14 = i))]))) := same_upd nl4
    have el4 : (upd G8 l4 (.lst (((([V.bl (decide (0 = i)), V.bl (decide (1 = i)), V.bl (decide (2 = i))] ++ [V.bl (decide (3 = i)), V.bl (decide (4 = i)), V.bl (decide (5 = i))]) ++ [V.bl (decide (6 = i)), V.bl (decide (7 = i)), V.bl (decide (8 = i))]) ++ [V.bl (decide (9 = i)), V.bl (decide (10 = i)), V.bl (decide (11 = i))]) ++ [V.bl (decide (12 = i)), V.bl (decide (13 = i)), V.bl (decide (14 = i))]))) l4 = some (.lst (((([V.bl (decide (0 = i)), V.bl (decide (1 = i)), V.bl (decide (2 = i))] ++ [V.bl (decide (3 = i)), V.bl (decide (4 = i)), V.bl (decide (5 = i))]) ++ [V.bl (decide (6 = i)), V.bl (decide (7 = i)), V.bl (decide (8 = i))]) ++ [V.bl (decide (9 = i)), V.bl (decide (10 = i)), V.bl (decide (11 = i))]) ++ [V.bl (decide (12 = i)), V.bl (decide (13 = i)), V.bl (decide (14 = i))])) := upd_same
    generalize upd G8 l4 (.lst (((([V.bl (decide (0 = i)), V.bl (decide (1 = i)), V.bl (decide (2 = i))] ++ [V.bl (decide (3 = i)), V.bl (decide (4 = i)), V.bl (decide (5 = i))]) ++ [V.bl (decide (6 = i)), V.bl (decide (7 = i)), V.bl (decide (8 = i))]) ++ [V.bl (decide (9 = i)), V.bl (decide (10 = i)), V.bl (decide (11 = i))]) ++ [V.bl (decide (12 = i)), V.bl (decide (13 = i)), V.bl (decide (14 = i))])) = G9 at *
    have x9 := x8.keep s9
    refine ⟨.ref l4, rfl, ?_⟩
    refine ⟨.ref e, rfl, e, c, .ref c15, .ref c15, _, rfl, x9, ev, .own _, kit i 15 c c15 hc rfl, ?_⟩
    refine ⟨.ref e, rfl, e, c, .ref c16, .ref c16, _, rfl, x9, ev, .own _, kit i 16 c c16 hc rfl, ?_⟩
    refine ⟨.ref e, rfl, e, c, .ref c17, .ref c17, _, rfl, x9, ev, .own _, kit i 17 c c17 hc rfl, ?_⟩
    refine ⟨by show 3 ≤ sizeLine; decide, fun m5 nm5 => ?_⟩
    have s10 : Same G9 (upd G9 m5 (.lst [V.bl (decide (15 = i)), V.bl (decide (16 = i)), V.bl (decide (17 = i))])) := same_upd nm5
    have em5 : (upd G9 m5 (.lst [V.bl (decide (15 = i)), V.bl (decide (16 = i)), V.bl (decide (17 = i))])) m5 = some (.lst [V.bl (decide (15 = i)), V.bl (decide (16 = i)), V.bl (decide (17 = i))]) := upd_same
    generalize upd G9 m5 (.lst [V.bl (decide (15 = i)), V.bl (decide (16 = i)), V.bl (decide (17 = i))]) = G10 at *
    refine ⟨l4, m5, _, _, rfl, rfl, s10 _ _ el4, em5, by show 18 ≤ sizeLine; decide, fun l5 nl5 => ?_⟩
    have x10 := x9.keep s10
    have s11 : Same G10 (upd G10 l5 (.lst ((((([V.bl (decide (0 = i)), V.bl (decide (1 = i)), V.bl (decide (2 = i))] ++ [V.bl (decide (3 = i)), V.bl (decide (4 = i)), V.bl (decide (5 = i))]) ++ [V.bl (decide (6 = i)), V.bl (decide (7 = i)), V.bl (decide (8 = i))]) ++ [V.bl (decide (9 = i)), V.bl (decide (10 = i)), V.bl (decide (11 = i))]) ++ [V.bl (decide (12 = i)), V.bl (decide (13 = i)), V.bl (decide (14 = i))]) ++ [V.bl (decide (15 = i)), V.bl (decide (16 = i)), V.bl (decide (17 = i))]))) := same_upd nl5
    have el5 : (upd G10 l5 (.lst ((((([V.bl (decide (0 = i)), V.bl (decide (1 = i)), V.bl (decide (2 = i))] ++ [V.bl (decide (3 = i)), V.bl (decide (4 = i)), V.bl (decide (5 = i))]) ++ [V.bl (decide (6 = i)), V.bl (decide (7 = i)), V.bl (decide (8 = i))]) ++ [V.bl (decide (9 = i)), V.bl (decide (10 = i)), V.bl (decide (11 = i))]) ++ [V.bl (decide (12 = i)), V.bl (decide (13 = i)), V.bl (decide (14 = i))]) ++ [V.bl (decide (15 = i)), V.bl (decide (16 = i)), V.bl (decide (17 = i))]))) l5 = some (.lst ((((([V.bl (decide (0 = i)), V.bl (decide (1 = i)), V.bl (decide (2 = i))] ++ [V.bl (decide (3 = i)), V.bl (decide (4 = i)), V.bl (decide (5 = i))]) ++ [V.bl (decide (6 = i)), V.bl (decide (7 = i)), V.bl (decide (8 = i))]) ++ [V.bl (decide (9 = i)), V.bl (decide (10 = i)), V.bl (decide (11 = i))]) ++ [V.bl (decide (12 = i)), V.bl (decide (13 = i)), V.bl (decide (14 = i))]) ++ [V.bl (decide (15 = i)), V.bl (decide (16 = i)), V.bl (decide (17 = i))])) := upd_same
    generalize upd G10 l5 (.lst ((((([V.bl (decide (0 = i)), V.bl (decide (1 = i)), V.bl (decide (2 = i))] ++ [V.bl (decide (3 = i)), V.bl (decide (4 = i)), V.bl (decide (5 = i))]) ++ [V.bl (decide (6 = i)), V.bl (decide (7 = i)), V.bl (decide (8 = i))]) ++ [V.bl (decide (9 = i)), V.bl (decide (10 = i)), V.bl (decide (11 = i))]) ++ [V.bl (decide (12 = i)), V.bl (decide (13 = i)), V.bl (decide (14 = i))]) ++ [V.bl (decide (15 = i)), V.bl (decide (16 = i)), V.bl (decide (17 = i))])) = G11 at *
    have x11 := x10.keep s11
    refine ⟨.ref l5, rfl, ?_⟩
    refine ⟨.ref e, rfl, e, c, .ref c18, .ref c18, _, rfl, x11, ev, .own _, kit i 18 c c18 hc rfl, ?_⟩
    refine ⟨.ref e, rfl, e, c, .ref c19, .ref c19, _, rfl, x11, ev, .own _, kit i 19 c c19 hc rfl, ?_⟩
    refine ⟨.ref e, rfl, e, c, .ref c20, .ref c20, _, rfl, x11, ev, .own _, kit i 20 c c20 hc rfl, ?_⟩
    refine ⟨by show 3 ≤ sizeLine; decide, fun m6 nm6 => ?_⟩
    have s12 : Same G11 (upd G11 m6 (.lst [V.bl (decide (18 = i)), V.bl (decide (19 = i)), V.bl (decide (20 = i))])) := same_upd nm6
    have em6 : (upd G11 m6 (.lst [V.bl (decide (18 = i)), V.bl (decide (19 = i)), V.bl (decide (20 = i))])) m6 = some (.lst [V.bl (decide (18 = i)), V.bl (decide (19 = i)), V.bl (decide (20 = i))]) := upd_same
    generalize upd G11 m6 (.lst [V.bl (decide (18 = i)), V.bl (decide (19 = i)), V.bl (decide (20 = i))]) = G12 at *
    refine ⟨l5, m6, _, _, rfl, rfl, s12 _ _ el5, em6, by show 21 ≤ sizeLine; decide, fun l6 nl6 => ?_⟩
    have x12 := x11.keep s12
    have s13 : Same G12 (upd G12 l6 (.lst (((((([V.bl (decide (0 = i)), V.bl (decide (1 = i)), V.bl (decide (2 = i))] ++ [V.bl (decide (3 = i)), V.bl (decide (4 = i)), V.bl (decide (5 = i))]) ++ [V.bl (decide (6 = i)), V.bl (decide (7 = i)), V.bl (decide (8 = i))]) ++ [V.bl (decide (9 = i)), V.bl (decide (10 = i)), V.bl (decide (11 = i))]) ++ [V.bl (decide (12 = i)), V.bl (decide (13 = i)), V.bl (decide (14 = i))]) ++ [V.bl (decide (15 = i)), V.bl (decide (16 = i)), V.bl (decide (17 = i))]) ++ [V.bl (decide (18 = i)), V.bl (decide (19 = i)), V.bl (decide (20 = i))]))) := same_upd nl6
    have el6 : (upd G12 l6 (.lst (((((([V.bl (decide (0 = i)), V.bl (decide (1 = i)), V.bl (decide (2 = i))] ++ [V.bl (decide (3 = i)), V.bl (decide (4 = i)), V.bl (decide (5 = i))]) ++ [V.bl (decide (6 = i)), V.bl (decide (7 = i)), V.bl (decide (8 = i))]) ++ [V.bl (decide (9 = i)), V.bl (decide (10 = i)), V.bl (decide (11 = i))]) ++ [V.bl (decide (12 = i)), V.bl (decide (13 = i)), V.bl (decide (14 = i))]) ++ [V.bl (decide (15 = i)), V.bl (decide (16 = i)), V.bl (decide (17 = i))]) ++ [V.bl (decide (18 = i)), V.bl (decide (19 = i)), V.bl (decide (20 = i))]))) l6 = some (.lst (((((([V.bl (decide (0 = i)), V.bl (decide (1 = i)), V.bl (decide (2 = i))] ++ [V.bl (decide (3 = i)), V.bl (decide (4 = i)), V.bl (decide (5 = i))]) ++ [V.bl (decide (6 = i)), V.bl (decide (7 = i)), V.bl (decide (8 = i))]) ++ [V.bl (decide (9 = i)), V.bl (decide (10 = i)), V.bl (decide (11 = i))]) ++ [V.bl (decide (12 = i)), V.bl (decide (13 = i)), V.bl (decide (14 = i))]) ++ [V.bl (decide (15 = i)), V.bl (decide (16 = i)), V.bl (decide (17 = i))]) ++ [V.bl (decide (18 = i)), V.bl (decide (19 = i)), V.bl (decide (20 = i))])) := upd_same
    generalize upd G12 l6 (.lst (((((([V.bl (decide (0 = i)), V.bl (decide (1 = i)), V.bl (decide (2 = i))] ++ [V.bl (decide (3 = i)), V.bl (decide (4 = i)), V.bl (decide (5 = i))]) ++ [V.bl (decide (6 = i)), V.bl (decide (7 = i)), V.bl (decide (8 = i))]) ++ [V.bl (decide (9 = i)), V.bl (decide (10 = i)), V.bl (decide (11 = i))]) ++ [V.bl (decide (12 = i)), V.bl (decide (13 = i)), V.bl (decide (14 = i))]) ++ [V.bl (decide (15 = i)), V.bl (decide (16 = i)), V.bl (decide (17 = i))]) ++ [V.bl (decide (18 = i)), V.bl (decide (19 = i)), V.bl (decide (20 = i))])) = G13 at *
    have x13 := x12.keep s13
    exact q _ l6 ((((((((((((s1.trans s2).trans s3).trans s4).trans s5).trans s6).trans s7).trans s8).trans s9).trans s10).trans s11).trans s12).trans s13) el6
theorem ok_fields {f : Addr} {fd : FuncData} {k : Nat} (F : Fun K "_law_fields" "_law_fields" sFields f fd) (T : Cls K mg c0 c1 c2 c3 c4 c5 c6 c7 c8 c9 c10 c11 c12 c13 c14 c15 c16 c17 c18 c19 c20 i1 i3 i4 i5 i6 i7 i9 i14 i15 i17 i18 i19 i20) : FnOk P w K mg base CX0 (k + 2) f fd ["_law_value"] spFields := by
  refine F.ok (k := k + 1) scFields (fun vs H Q E h => ?_) (fun cdv A outer st H vs Q E hr h => ?_)
  · obtain ⟨v, rfl, _⟩ := h
    rfl
  · obtain ⟨v, rfl, q⟩ := h
    refine ⟨_, pss_cons (ps_set (i := 1) scFields.nd rfl (.inl rfl) (pe_lst (pa_cons (pe_fldV (C := c1) (fld := "index") T.t1.ga T.t1.gg T.t1.exC T.t1.hdC T.t1.noN (pe_mkV (fld := "index") (fun {s u R} h1 h2 h3 h4 => PySem.NotAlikeX.c_made T.t1 h1 h2 h3 h4) T.t1.gC T.t1.kC hr (by rfl) (pa_cons (pv 0) pa_nil))) (pa_cons (pe_fldV (C := c3) (fld := "value") T.t3.ga T.t3.gg T.t3.exC T.t3.hdC T.t3.noN (pe_mkV (fld := "value") (fun {s u R} h1 h2 h3 h4 => PySem.BadTargetsX.c_made T.t3 h1 h2 h3 h4) T.t3.gC T.t3.kC hr (by rfl) (pa_cons (pv 0) pa_nil))) (pa_cons (pe_fldV (C := c4) (fld := "name") T.t4.ga T.t4.gg T.t4.exC T.t4.hdC T.t4.noN (pe_mkV (fld := "name") (fun {s u R} h1 h2 h3 h4 => PySem.NoPropertyX.c_made T.t4 h1 h2 h3 h4) T.t4.gC T.t4.kC hr (by rfl) (pa_cons (pv 0) pa_nil))) (pa_cons (pe_fldV (C := c5) (fld := "value") T.t5.ga T.t5.gg T.t5.exC T.t5.hdC T.t5.noN (pe_mkV (fld := "value") (fun {s u R} h1 h2 h3 h4 => PySem.BadWishX.c_made T.t5 h1 h2 h3 h4) T.t5.gC T.t5.kC hr (by rfl) (pa_cons (pv 0) pa_nil))) pa_nil))))))
      (pss_cons (ps_set (i := 1) scFields.nd rfl (.inl rfl) (pe_op op_cat (pv 1) (pe_lst (pa_cons (pe_fldV (C := c6) (fld := "value") T.t6.ga T.t6.gg T.t6.exC T.t6.hdC T.t6.noN (pe_mkV (fld := "value") (fun {s u R} h1 h2 h3 h4 => PySem.BadSizeX.c_made T.t6 h1 h2 h3 h4) T.t6.gC T.t6.kC hr (by rfl) (pa_cons (pv 0) pa_nil))) (pa_cons (pe_fldV (C := c7) (fld := "value") T.t7.ga T.t7.gg T.t7.exC T.t7.hdC T.t7.noN (pe_mkV (fld := "value") (fun {s u R} h1 h2 h3 h4 => PySem.NoClaimX.c_made T.t7 h1 h2 h3 h4) T.t7.gC T.t7.kC hr (by rfl) (pa_cons (pv 0) pa_nil))) (pa_cons (pe_fldV (C := c9) (fld := "ring") T.t9.ga T.t9.gg T.t9.exC T.t9.hdC T.t9.noN (pe_mkV (fld := "ring") (fun {s u R} h1 h2 h3 h4 => PySem.ContradictionX.c_made T.t9 h1 h2 h3 h4) T.t9.gC T.t9.kC hr (by rfl) (pa_cons (pv 0) pa_nil))) (pa_cons (pe_fldV (C := c14) (fld := "index") T.t14.ga T.t14.gg T.t14.exC T.t14.hdC T.t14.noN (pe_mkV (fld := "index") (fun {s u R} h1 h2 h3 h4 => PySem.BadEditX.c_made T.t14 h1 h2 h3 h4) T.t14.gC T.t14.kC hr (by rfl) (pa_cons (pv 0) pa_nil))) pa_nil)))))))
      (pss_cons (ps_set (i := 1) scFields.nd rfl (.inl rfl) (pe_op op_cat (pv 1) (pe_lst (pa_cons (pe_fldV (C := c15) (fld := "index") T.t15.ga T.t15.gg T.t15.exC T.t15.hdC T.t15.noN (pe_mkV (fld := "index") (fun {s u R} h1 h2 h3 h4 => PySem.RejectedX.c_made T.t15 h1 h2 h3 h4) T.t15.gC T.t15.kC hr (by rfl) (pa_cons (pv 0) pa_nil))) (pa_cons (pe_fldV (C := c17) (fld := "index") T.t17.ga T.t17.gg T.t17.exC T.t17.hdC T.t17.noN (pe_mkV (fld := "index") (fun {s u R} h1 h2 h3 h4 => PySem.BadTextX.c_made T.t17 h1 h2 h3 h4) T.t17.gC T.t17.kC hr (by rfl) (pa_cons (pv 0) pa_nil))) (pa_cons (pe_fldV (C := c18) (fld := "value") T.t18.ga T.t18.gg T.t18.exC T.t18.hdC T.t18.noN (pe_mkV (fld := "value") (fun {s u R} h1 h2 h3 h4 => PySem.NoWindowX.c_made T.t18 h1 h2 h3 h4) T.t18.gC T.t18.kC hr (by rfl) (pa_cons (pv 0) pa_nil))) pa_nil))))))
      (pss_one (ps_ret (pe_op op_cat (pv 1) (pe_lst (pa_cons (pe_fldV (C := c19) (fld := "value") T.t19.ga T.t19.gg T.t19.exC T.t19.hdC T.t19.noN (pe_mkV (fld := "value") (fun {s u R} h1 h2 h3 h4 => PySem.NoIndexX.c_made T.t19 h1 h2 h3 h4) T.t19.gC T.t19.kC hr (by rfl) (pa_cons (pv 0) pa_nil))) (pa_cons (pe_fldV (C := c20) (fld := "value") T.t20.ga T.t20.gg T.t20.exC T.t20.hdC T.t20.noN (pe_mkV (fld := "value") (fun {s u R} h1 h2 h3 h4 => PySem.NoVersionX.c_made T.t20 h1 h2 h3 h4) T.t20.gC T.t20.kC hr (by rfl) (pa_cons (pv 0) pa_nil))) pa_nil)))))))), ?_⟩
    refine ⟨v, rfl, v, rfl, fun d1 a1 nd1 na1 ne1 => ?_⟩
    have sd1 : Same H (upd H d1 (.xd [(("index" : Str), v)])) := same_upd nd1
    have na1' : (upd H d1 (.xd [(("index" : Str), v)])) a1 = none := by rw [upd_ne (Ne.symm ne1)]; exact na1
    have se1 := same_upd (o := ExD (.ref c1) a1 d1) na1'
    have s1 := sd1.trans se1
    refine ⟨a1, d1, v, rfl, upd_same, se1 _ _ upd_same, ?_⟩
    clear se1 na1'
    generalize upd (upd H d1 (.xd [(("index" : Str), v)])) a1 (ExD (.ref c1) a1 d1) = G1 at *
    refine ⟨v, rfl, v, rfl, fun d3 a3 nd3 na3 ne3 => ?_⟩
    have sd3 : Same G1 (upd G1 d3 (.xd [(("value" : Str), v)])) := same_upd nd3
    have na3' : (upd G1 d3 (.xd [(("value" : Str), v)])) a3 = none := by rw [upd_ne (Ne.symm ne3)]; exact na3
    have se3 := same_upd (o := ExD (.ref c3) a3 d3) na3'
    have s2 := sd3.trans se3
    refine ⟨a3, d3, v, rfl, upd_same, se3 _ _ upd_same, ?_⟩
    clear se3 na3'
    generalize upd (upd G1 d3 (.xd [(("value" : Str), v)])) a3 (ExD (.ref c3) a3 d3) = G2 at *
    refine ⟨v, rfl, v, rfl, fun d4 a4 nd4 na4 ne4 => ?_⟩
    have sd4 : Same G2 (upd G2 d4 (.xd [(("name" : Str), v)])) := same_upd nd4
    have na4' : (upd G2 d4 (.xd [(("name" : Str), v)])) a4 = none := by rw [upd_ne (Ne.symm ne4)]; exact na4
    have se4 := same_upd (o := ExD (.ref c4) a4 d4) na4'
    have s3 := sd4.trans se4
    refine ⟨a4, d4, v, rfl, upd_same, se4 _ _ upd_same, ?_⟩
    clear se4 na4'
    generalize upd (upd G2 d4 (.xd [(("name" : Str), v)])) a4 (ExD (.ref c4) a4 d4) = G3 at *
    refine ⟨v, rfl, v, rfl, fun d5 a5 nd5 na5 ne5 => ?_⟩
    have sd5 : Same G3 (upd G3 d5 (.xd [(("value" : Str), v)])) := same_upd nd5
    have na5' : (upd G3 d5 (.xd [(("value" : Str), v)])) a5 = none := by rw [upd_ne (Ne.symm ne5)]; exact na5
    have se5 := same_upd (o := ExD (.ref c5) a5 d5) na5'
    have s4 := sd5.trans se5
    refine ⟨a5, d5, v, rfl, upd_same, se5 _ _ upd_same, ?_⟩
    clear se5 na5'
    generalize upd (upd G3 d5 (.xd [(("value" : Str), v)])) a5 (ExD (.ref c5) a5 d5) = G4 at *
    refine ⟨by show 4 ≤ sizeLine; decide, fun m0 nm0 => ?_⟩
    have s5 : Same G4 (upd G4 m0 (.lst [v, v, v, v])) := same_upd nm0
    have em0 : (upd G4 m0 (.lst [v, v, v, v])) m0 = some (.lst [v, v, v, v]) := upd_same
    generalize upd G4 m0 (.lst [v, v, v, v]) = G5 at *
    obtain ⟨l0, hl0⟩ : ∃ l, l = m0 := ⟨_, rfl⟩
    subst hl0
    have el0 := em0
    refine ⟨.ref l0, rfl, ?_⟩
    refine ⟨v, rfl, v, rfl, fun d6 a6 nd6 na6 ne6 => ?_⟩
    have sd6 : Same G5 (upd G5 d6 (.xd [(("value" : Str), v)])) := same_upd nd6
    have na6' : (upd G5 d6 (.xd [(("value" : Str), v)])) a6 = none := by rw [upd_ne (Ne.symm ne6)]; exact na6
    have se6 := same_upd (o := ExD (.ref c6) a6 d6) na6'
    have s6 := sd6.trans se6
    refine ⟨a6, d6, v, rfl, upd_same, se6 _ _ upd_same, ?_⟩
    clear se6 na6'
    generalize upd (upd G5 d6 (.xd [(("value" : Str), v)])) a6 (ExD (.ref c6) a6 d6) = G6 at *
    refine ⟨v, rfl, v, rfl, fun d7 a7 nd7 na7 ne7 => ?_⟩
    have sd7 : Same G6 (upd G6 d7 (.xd [(("value" : Str), v)])) := same_upd nd7
    have na7' : (upd G6 d7 (.xd [(("value" : Str), v)])) a7 = none := by rw [upd_ne (Ne.symm ne7)]; exact na7
    have se7 := same_upd (o := ExD (.ref c7) a7 d7) na7'
    have s7 := sd7.trans se7
    refine ⟨a7, d7, v, rfl, upd_same, se7 _ _ upd_same, ?_⟩
    clear se7 na7'
    generalize upd (upd G6 d7 (.xd [(("value" : Str), v)])) a7 (ExD (.ref c7) a7 d7) = G7 at *
    refine ⟨v, rfl, v, rfl, fun d9 a9 nd9 na9 ne9 => ?_⟩
    have sd9 : Same G7 (upd G7 d9 (.xd [(("ring" : Str), v)])) := same_upd nd9
    have na9' : (upd G7 d9 (.xd [(("ring" : Str), v)])) a9 = none := by rw [upd_ne (Ne.symm ne9)]; exact na9
    have se9 := same_upd (o := ExD (.ref c9) a9 d9) na9'
    have s8 := sd9.trans se9
    refine ⟨a9, d9, v, rfl, upd_same, se9 _ _ upd_same, ?_⟩
    clear se9 na9'
    generalize upd (upd G7 d9 (.xd [(("ring" : Str), v)])) a9 (ExD (.ref c9) a9 d9) = G8 at *
    refine ⟨v, rfl, v, rfl, fun d14 a14 nd14 na14 ne14 => ?_⟩
    have sd14 : Same G8 (upd G8 d14 (.xd [(("index" : Str), v)])) := same_upd nd14
    have na14' : (upd G8 d14 (.xd [(("index" : Str), v)])) a14 = none := by rw [upd_ne (Ne.symm ne14)]; exact na14
    have se14 := same_upd (o := ExD (.ref c14) a14 d14) na14'
    have s9 := sd14.trans se14
    refine ⟨a14, d14, v, rfl, upd_same, se14 _ _ upd_same, ?_⟩
    clear se14 na14'
    generalize upd (upd G8 d14 (.xd [(("index" : Str), v)])) a14 (ExD (.ref c14) a14 d14) = G9 at *
    refine ⟨by show 4 ≤ sizeLine; decide, fun m1 nm1 => ?_⟩
    have s10 : Same G9 (upd G9 m1 (.lst [v, v, v, v])) := same_upd nm1
    have em1 : (upd G9 m1 (.lst [v, v, v, v])) m1 = some (.lst [v, v, v, v]) := upd_same
    generalize upd G9 m1 (.lst [v, v, v, v]) = G10 at *
    refine ⟨l0, m1, _, _, rfl, rfl, ((((s6.trans s7).trans s8).trans s9).trans s10) _ _ el0, em1, by show 8 ≤ sizeLine; decide, fun l1 nl1 => ?_⟩
    have s11 : Same G10 (upd G10 l1 (.lst ([v, v, v, v] ++ [v, v, v, v]))) := same_upd nl1
    have el1 : (upd G10 l1 (.lst ([v, v, v, v] ++ [v, v, v, v]))) l1 = some (.lst ([v, v, v, v] ++ [v, v, v, v])) := upd_same
    generalize upd G10 l1 (.lst ([v, v, v, v] ++ [v, v, v, v])) = G11 at *
    refine ⟨.ref l1, rfl, ?_⟩
    refine ⟨v, rfl, v, rfl, fun d15 a15 nd15 na15 ne15 => ?_⟩
    have sd15 : Same G11 (upd G11 d15 (.xd [(("index" : Str), v)])) := same_upd nd15
    have na15' : (upd G11 d15 (.xd [(("index" : Str), v)])) a15 = none := by rw [upd_ne (Ne.symm ne15)]; exact na15
    have se15 := same_upd (o := ExD (.ref c15) a15 d15) na15'
    have s12 := sd15.trans se15
    refine ⟨a15, d15, v, rfl, upd_same, se15 _ _ upd_same, ?_⟩
    clear se15 na15'
    generalize upd (upd G11 d15 (.xd [(("index" : Str), v)])) a15 (ExD (.ref c15) a15 d15) = G12 at *
    refine ⟨v, rfl, v, rfl, fun d17 a17 nd17 na17 ne17 => ?_⟩
    have sd17 : Same G12 (upd G12 d17 (.xd [(("index" : Str), v)])) := same_upd nd17
    have na17' : (upd G12 d17 (.xd [(("index" : Str), v)])) a17 = none := by rw [upd_ne (Ne.symm ne17)]; exact na17
    have se17 := same_upd (o := ExD (.ref c17) a17 d17) na17'
    have s13 := sd17.trans se17
    refine ⟨a17, d17, v, rfl, upd_same, se17 _ _ upd_same, ?_⟩
    clear se17 na17'
    generalize upd (upd G12 d17 (.xd [(("index" : Str), v)])) a17 (ExD (.ref c17) a17 d17) = G13 at *
    refine ⟨v, rfl, v, rfl, fun d18 a18 nd18 na18 ne18 => ?_⟩
    have sd18 : Same G13 (upd G13 d18 (.xd [(("value" : Str), v)])) := same_upd nd18
    have na18' : (upd G13 d18 (.xd [(("value" : Str), v)])) a18 = none := by rw [upd_ne (Ne.symm ne18)]; exact na18
    have se18 := same_upd (o := ExD (.ref c18) a18 d18) na18'
    have s14 := sd18.trans se18
    refine ⟨a18, d18, v, rfl, upd_same, se18 _ _ upd_same, ?_⟩
    clear se18 na18'
    generalize upd (upd G13 d18 (.xd [(("value" : Str), v)])) a18 (ExD (.ref c18) a18 d18) = G14 at *
    refine ⟨by show 3 ≤ sizeLine; decide, fun m2 nm2 => ?_⟩
    have s15 : Same G14 (upd G14 m2 (.lst [v, v, v])) := same_upd nm2
    have em2 : (upd G14 m2 (.lst [v, v, v])) m2 = some (.lst [v, v, v]) := upd_same
    generalize upd G14 m2 (.lst [v, v, v]) = G15 at *
    refine ⟨l1, m2, _, _, rfl, rfl, (((s12.trans s13).trans s14).trans s15) _ _ el1, em2, by show 11 ≤ sizeLine; decide, fun l2 nl2 => ?_⟩
    have s16 : Same G15 (upd G15 l2 (.lst (([v, v, v, v] ++ [v, v, v, v]) ++ [v, v, v]))) := same_upd nl2
    have el2 : (upd G15 l2 (.lst (([v, v, v, v] ++ [v, v, v, v]) ++ [v, v, v]))) l2 = some (.lst (([v, v, v, v] ++ [v, v, v, v]) ++ [v, v, v])) := upd_same
    generalize upd G15 l2 (.lst (([v, v, v, v] ++ [v, v, v, v]) ++ [v, v, v])) = G16 at *
    refine ⟨.ref l2, rfl, ?_⟩
    refine ⟨v, rfl, v, rfl, fun d19 a19 nd19 na19 ne19 => ?_⟩
    have sd19 : Same G16 (upd G16 d19 (.xd [(("value" : Str), v)])) := same_upd nd19
    have na19' : (upd G16 d19 (.xd [(("value" : Str), v)])) a19 = none := by rw [upd_ne (Ne.symm ne19)]; exact na19
    have se19 := same_upd (o := ExD (.ref c19) a19 d19) na19'
    have s17 := sd19.trans se19
    refine ⟨a19, d19, v, rfl, upd_same, se19 _ _ upd_same, ?_⟩
    clear se19 na19'
    generalize upd (upd G16 d19 (.xd [(("value" : Str), v)])) a19 (ExD (.ref c19) a19 d19) = G17 at *
    refine ⟨v, rfl, v, rfl, fun d20 a20 nd20 na20 ne20 => ?_⟩
    have sd20 : Same G17 (upd G17 d20 (.xd [(("value" : Str), v)])) := same_upd nd20
    have na20' : (upd G17 d20 (.xd [(("value" : Str), v)])) a20 = none := by rw [upd_ne (Ne.symm ne20)]; exact na20
    have se20 := same_upd (o := ExD (.ref c20) a20 d20) na20'
    have s18 := sd20.trans se20
    refine ⟨a20, d20, v, rfl, upd_same, se20 _ _ upd_same, ?_⟩
    clear se20 na20'
    generalize upd (upd G17 d20 (.xd [(("value" : Str), v)])) a20 (ExD (.ref c20) a20 d20) = G18 at *
    refine ⟨by show 2 ≤ sizeLine; decide, fun m3 nm3 => ?_⟩
    have s19 : Same G18 (upd G18 m3 (.lst [v, v])) := same_upd nm3
    have em3 : (upd G18 m3 (.lst [v, v])) m3 = some (.lst [v, v]) := upd_same
    generalize upd G18 m3 (.lst [v, v]) = G19 at *
    refine ⟨l2, m3, _, _, rfl, rfl, ((s17.trans s18).trans s19) _ _ el2, em3, by show 13 ≤ sizeLine; decide, fun l3 nl3 => ?_⟩
    have s20 : Same G19 (upd G19 l3 (.lst ((([v, v, v, v] ++ [v, v, v, v]) ++ [v, v, v]) ++ [v, v]))) := same_upd nl3
    have el3 : (upd G19 l3 (.lst ((([v, v, v, v] ++ [v, v, v, v]) ++ [v, v, v]) ++ [v, v]))) l3 = some (.lst ((([v, v, v, v] ++ [v, v, v, v]) ++ [v, v, v]) ++ [v, v])) := upd_same
    generalize upd G19 l3 (.lst ((([v, v, v, v] ++ [v, v, v, v]) ++ [v, v, v]) ++ [v, v])) = G20 at *
    exact q _ l3 (((((((((((((((((((s1.trans s2).trans s3).trans s4).trans s5).trans s6).trans s7).trans s8).trans s9).trans s10).trans s11).trans s12).trans s13).trans s14).trans s15).trans s16).trans s17).trans s18).trans s19).trans s20) el3
end
end Lw
namespace Lw
open PySem PySem.Spec PyProof.Rows L2 Gd
abbrev sLaw : Stmt := topS 38
abbrev lawN : List Str := ["_law_script", "_law_stream_here", "_law_turn", "_law_value", "_law_spot", "_law_error", "_law_bases", "_law_limits", "_law_k"]
theorem scLaw : FnScope lawN ["_law_script"] (defScope sLaw) := ⟨rfl, rfl, rfl, by decide +kernel, rfl, by decide +kernel, by decide +kernel⟩
def spLaw (K : PySem.W.Frag) : Sp := fun vs H Q _ => ∃ (sc : Addr) (ns : List Int), vs = [.ref sc] ∧ SqL K H sc (ns.map V.int) ∧ ns.length ≤ 63 ∧ ∀ H', Q (.bl true) H'
abbrev av0 : Addr → Prop := fun _ => False
theorem Dv.less {av av' : Addr → Prop} {H : Hp} {v : V} {d : PyData} (k : ∀ b, av' b → av b) (h : Dv av H v d) : Dv av' H v d := by
  induction h with
  | non => exact .non
  | bl b => exact .bl b
  | int i => exact .int i
  | str x => exact .str x
  | lst e n l _ ih => exact .lst e (fun z => n (k _ z)) l ih
  | tup e n l _ ih => exact .tup e (fun z => n (k _ z)) l ih
  | dct e n p => exact .dct e (fun z => n (k _ z)) p
theorem It.less {av : Addr → Prop} {H : Hp} {v : V} (x : It av H v) : It av0 H v := by
  obtain ⟨d, h, s⟩ := x
  exact ⟨d, Dv.less (fun _ z => z.elim) h, s⟩
structure Fits (d : PyData) : Prop where
  sh : d.showable = true
  ln : d.shown.length ≤ sizeLine
  dp : d.depth ≤ 60
theorem fits_of {d : PyData} (h1 : d.showable = true) (h2 : d.leavesShort 100 = true) (h3 : d.weight ≤ 30000) (h4 : d.depth ≤ 60) : Fits d := by
  refine ⟨h1, ?_, h4⟩
  have z := PyData.shown_le 100 (by decide) _ h2
  exact Nat.le_trans z (Nat.le_of_lt (Nat.lt_of_le_of_lt (by omega : _ ≤ 102 * 30000 + 100) (by decide)))
theorem rep_fits {d : PyData} (s : Small 200 d) : Fits (.list (List.replicate 13 d)) := by
  have key : ∀ n : Nat, PyData.showableAll (List.replicate n d) = true ∧ PyData.leavesShortAll 100 (List.replicate n d) = true ∧ PyData.weightAll (List.replicate n d) ≤ 201 * n ∧ PyData.depthAll (List.replicate n d) ≤ 1 := by
    intro n
    induction n with
    | zero => exact ⟨rfl, rfl, by simp [PyData.weightAll], by simp [PyData.depthAll]⟩
    | succ n ih =>
      obtain ⟨i1, i2, i3, i4⟩ := ih
      have w1 := s.wt
      have d1 := s.dp
      rw [List.replicate_succ]
      refine ⟨?_, ?_, ?_, ?_⟩
      · rw [PyData.showableAll, s.sh, i1]
        rfl
      · rw [PyData.leavesShortAll, s.lv, i2]
        rfl
      · rw [PyData.weightAll]
        omega
      · rw [PyData.depthAll]
        omega
  obtain ⟨i1, i2, i3, i4⟩ := key 13
  refine fits_of (by rw [PyData.showable]; exact i1) (by rw [PyData.leavesShort]; exact i2) ?_ ?_
  · rw [PyData.weight]
    omega
  · rw [PyData.depth]
    omega
theorem dv_rep {av : Addr → Prop} {H : Hp} {a : Addr} {v : V} {d : PyData} {n : Nat} (e : H a = some (.lst (List.replicate n v))) (na : ¬ av a) (h : Dv av H v d) : Dv av H (.ref a) (.list (List.replicate n d)) := by
  refine .lst e na (by rw [List.length_replicate, List.length_replicate]) fun i x y h1 h2 => ?_
  rw [List.eq_of_mem_replicate (List.mem_of_getElem? h1), List.eq_of_mem_replicate (List.mem_of_getElem? h2)]
  exact h
def limD : PyData := .list [.int 12, .int 1000000000, .int 60, .int 30, .int 60, .int 1000000000000, .int 60, .int 20]
def limV : List V := [.int 12, .int 1000000000, .int 60, .int 30, .int 60, .int 1000000000000, .int 60, .int 20]
theorem lim_fits : Fits limD := fits_of (by decide +kernel) (by decide +kernel) (by decide +kernel) (by decide +kernel)
theorem lim_dv {H : Hp} {a : Addr} {p q : Int} (e : H a = some (.lst [.int 12, .int p, .int 60, .int 30, .int 60, .int q, .int 60, .int 20])) (hp : p = 1000000000) (hq : q = 1000000000000) : Dv av0 H (.ref a) limD := by
  subst hp hq
  exact .lst e id rfl (paired_ix (.cons (.int _) (.cons (.int _) (.cons (.int _) (.cons (.int _) (.cons (.int _) (.cons (.int _) (.cons (.int _) (.cons (.int _) .nil)))))))))
theorem dpAll_bools {K : PySem.W.Frag} {H : Hp} : ∀ bs : List Bool, DpAll K H (bs.map V.bl) (bs.map PyData.bool)
  | [] => .nil
  | n :: r => .cons (.bl n) (dpAll_bools r)
theorem bools_shaped (bs : List Bool) : SeqAt.shaped (.list (bs.map PyData.bool)) = true := by
  have key : ∀ bs : List Bool, PyData.canLayAll0 (bs.map PyData.bool) = true ∧ PyData.depthAll (bs.map PyData.bool) = 0 := by
    intro bs
    induction bs with
    | nil => exact ⟨rfl, rfl⟩
    | cons b r ih =>
      refine ⟨?_, ?_⟩
      · rw [List.map_cons, PyData.canLayAll0, ih.1]
        rfl
      · rw [List.map_cons, PyData.depthAll, ih.2]
        rfl
  unfold SeqAt.shaped
  rw [PyData.canLay0, PyData.depth, (key bs).1, (key bs).2]
  decide
theorem bools_same (bs : List Bool) : (!PyData.eqv (.list (bs.map PyData.bool)) (.list (bs.map PyData.bool))) = false := by
  rw [SeqAt.eqv_refl _ (SeqAt.canLay_of_shaped (bools_shaped bs))]
  rfl
abbrev flagB (i : Nat) : List Bool := (List.range 21).map fun j => decide (j = i)
theorem flag_eq (i n : Nat) : ((List.range n).map fun j => V.bl (decide (j = i))) = ((List.range n).map fun j => decide (j = i)).map V.bl := by
  rw [List.map_map]
  rfl
theorem dec_eq (j i : Nat) : decide (V.int (0 + (j : Int)) = V.int (i : Int)) = decide (j = i) := by
  apply decide_eq_decide.mpr
  constructor
  · intro h
    have := V.int.inj h
    omega
  · intro h
    rw [h, Int.zero_add]
section
variable {P : Program} {w : World} {K : PySem.W.Frag} {mg : Str → Option Value} {base : Heap}
structure Cal (P : Program) (w : World) (K : PySem.W.Frag) (mg : Str → Option Value) (base : Heap) (k : Nat) (x : Str) (f : Addr) (fd : FuncData) (ps : List Str) (sp : Sp) : Prop where
  G : FnOk P w K mg base CX0 k f fd ps sp
  kp : PySem.W.keepIn K (.ref f) = true
  b : Binds K fd ps []
  g : mg x = some (.ref f)
theorem ok_law {f fS fO fM fF fE CE : Addr} {fd dS dO dM dF dE : FuncData} {k : Nat} {cl : List Addr} {t1 t2 t3 t4 t5 t6 t7 t8 : Nat} (F : Fun K "law" "law" sLaw f fd)
    (CS : Cal P w K mg base k "_law_stream" fS dS ["_law_script"] (spStream K)) (CO : Cal P w K mg base k "_law_odd" fO dO ["_law_stream_here"] spOdd)
    (CM : Cal P w K mg base k "_law_made" fM dM ["_law_value"] (spMade cl)) (CF : Cal P w K mg base k "_law_flags" fF dF ["_law_error"] (spFlags cl)) (CD : Cal P w K mg base k "_law_fields" fE dE ["_law_value"] spFields)
    (hcl : cl.length = 21) (EV : ∀ c ∈ cl, ExcV K c) (gE : mg "LeastError" = some (.ref CE)) (kE : ∀ (i : Nat) (c : Addr), cl[i]? = some c → PySem.W.kitOne K (.ref c) (.ref CE) = some (decide ((i : Int) < 18)))
    (kV : ∀ (i : Nat) (c : Addr), cl[i]? = some c → PySem.W.kitOne K (.ref c) (.type "ValueError") = some (decide ((i : Int) < 18)))
    (kL : ∀ (i : Nat) (c : Addr), cl[i]? = some c → PySem.W.kitOne K (.ref c) (.type "LookupError") = some (decide (17 < (i : Int))))
    (m1 : mg "MAX_PLACES" = some (.int 12 t1)) (m2 : mg "MAX_ENTRY" = some (.int 1000000000 t2)) (m3 : mg "MAX_COUNT" = some (.int 60 t3)) (m4 : mg "MAX_CLAIMS" = some (.int 30 t4)) (m5 : mg "MAX_TEXT" = some (.int 60 t5)) (m6 : mg "MAX_TIMES" = some (.int 1000000000000 t6)) (m7 : mg "MAX_EDITS" = some (.int 60 t7)) (m8 : mg "BATCH" = some (.int 20 t8))
    (mr : mg "range" = none) (mp : mg "repr" = none) (me : mg "enumerate" = none) (mi : mg "isinstance" = none) (mV : mg "ValueError" = none) (mL : mg "LookupError" = none) : FnG P w K mg base CX0 (k + 1) f fd ["_law_script"] (spLaw K) := by
  refine fnG_of F scLaw (fun vs H Q E h => ?_) (fun cdv A outer st H vs Q E hr hg h => ?_)
  · obtain ⟨sc, ns, rfl, _⟩ := h
    rfl
  · obtain ⟨sc, ss, rfl, hS, hlen, q⟩ := h
    refine ⟨_, pss_cons (ps_set (i := 1) scLaw.nd rfl (.inl rfl) (pe_call CS.G hr (by rfl) CS.g CS.kp CS.b .nil pass0 (pa_cons (pv 0) pa_nil)))
      (pss_cons (ps_for PassesOwn.never rfl (pi_range1 (by rfl) mr (pa_cons pe_int pa_nil)) (pg_name (i := 2) scLaw.nd rfl (.inl rfl))
        (pss_cons (ps_set (i := 3) scLaw.nd rfl (.inl rfl) (pe_call CO.G hr (by rfl) CO.g CO.kp CO.b .nil pass0 (pa_cons (pv 1) pa_nil)))
        (pss_cons (ps_for PassesOwn.never rfl (pi_enum (by rfl) me (pa_cons (pe_call CM.G hr (by rfl) CM.g CM.kp CM.b .nil pass0 (pa_cons (pv 3) pa_nil)) pa_nil)) (pg_tup rfl (pgs_cons (pg_name (i := 4) scLaw.nd rfl (.inr rfl)) (pgs_cons (pg_name (i := 5) scLaw.nd rfl (.inl rfl)) pgs_nil)))
          (pss_cons (ps_set (i := 6) scLaw.nd rfl (.inl rfl) (pe_lst (pa_cons (pe_callB call_isV (by rfl) mi (by decide +kernel) (pa_cons (pv 5) (pa_cons (pe_glob (v := .ref CE) rfl gE rfl) pa_nil)))
            (pa_cons (pe_callB call_isV (by rfl) mi (by decide +kernel) (pa_cons (pv 5) (pa_cons (pe_bltn (v := .ty "ValueError") (by rfl) mV (by decide +kernel) rfl) pa_nil)))
            (pa_cons (pe_callB call_isV (by rfl) mi (by decide +kernel) (pa_cons (pv 5) (pa_cons (pe_bltn (v := .ty "LookupError") (by rfl) mL (by decide +kernel) rfl) pa_nil))) pa_nil)))))
          (pss_one (ps_if (PW.pt (pw_or (pt_cmpR (op_neD hr.units) (pe_call CF.G hr (by rfl) CF.g CF.kp CF.b .nil pass0 (pa_cons (pv 5) pa_nil))
              (pe_lc (own := [("_law_k", 8)]) (g := gName 8) (tt := tYes) (by rfl) scLaw.nd (pi_range1 (by rfl) mr (pa_cons pe_int pa_nil)) (blkOk_by (N := lawN) (sc := defScope sLaw) (by decide +kernel)) (fun _ _ _ _ _ => pg_name (i := 8) scLaw.nd rfl (Or.inl rfl)) (fun _ _ _ _ _ => pts_nil)
                (fun _ _ _ _ _ => pe_cmpR op_eq (pv 8) (pv 4) (nomark _))) (nomark _))
            (pw_or1 (pt_cmpR (op_neD hr.units) (pv 6) (pe_lst (pa_cons (pe_cmpR op_lt (pv 4) pe_int (nomark _)) (pa_cons (pe_cmpR op_lt (pv 4) pe_int (nomark _)) (pa_cons (pe_cmpR op_gt (pv 4) pe_int (nomark _)) pa_nil)))) (nomark _)))))
            (pss_one (ps_ret pe_bl)) pss_nil))))
        (pss_one (ps_if (pt_cmpR op_ne (pe_callB (call_repr (av := av0) hg hr.units) (by rfl) mp (by decide +kernel) (pa_cons (pe_call CD.G hr (by rfl) CD.g CD.kp CD.b .nil pass0 (pa_cons (pv 3) pa_nil)) pa_nil))
            (pe_callB (call_repr (av := av0) hg hr.units) (by rfl) mp (by decide +kernel) (pa_cons (pe_op op_rep (pe_lst (pa_cons (pv 3) pa_nil)) pe_int) pa_nil)) (nomark _))
          (pss_one (ps_ret pe_bl)) pss_nil)))))
      (pss_cons (ps_set (i := 7) scLaw.nd rfl (.inl rfl) (pe_lst (pa_cons (pe_glob (v := .int 12) rfl m1 ⟨_, rfl⟩) (pa_cons (pe_glob (v := .int 1000000000) rfl m2 ⟨_, rfl⟩) (pa_cons (pe_glob (v := .int 60) rfl m3 ⟨_, rfl⟩) (pa_cons (pe_glob (v := .int 30) rfl m4 ⟨_, rfl⟩)
        (pa_cons (pe_glob (v := .int 60) rfl m5 ⟨_, rfl⟩) (pa_cons (pe_glob (v := .int 1000000000000) rfl m6 ⟨_, rfl⟩) (pa_cons (pe_glob (v := .int 60) rfl m7 ⟨_, rfl⟩) (pa_cons (pe_glob (v := .int 20) rfl m8 ⟨_, rfl⟩) pa_nil))))))))))
      (pss_one (ps_ret (pe_cmpR op_eq (pe_callB (call_repr (av := av0) hg hr.units) (by rfl) mp (by decide +kernel) (pa_cons (pv 7) pa_nil))
        (pe_callB (call_repr (av := av0) hg hr.units) (by rfl) mp (by decide +kernel) (pa_cons (pe_lst (pa_cons pe_int (pa_cons (pe_op op_pow pe_int pe_int) (pa_cons pe_int (pa_cons pe_int (pa_cons pe_int (pa_cons (pe_op op_pow pe_int pe_int) (pa_cons pe_int (pa_cons pe_int pa_nil))))))))) pa_nil)) (nomark _)))))), ?_⟩
    refine ⟨.ref sc, rfl, sc, ss, rfl, hS, hlen, fun H1 s a b h01 hs0 ha0 hb0 sm => ?_⟩
    refine ⟨12, rfl, by decide, by decide, for_range (n := (12 : Int).toNat) (fun i σ H2 => Sm H2 s a b (10 * i) ∧ ∃ y2 y3 y4 y5 y6 y7 y8, σ = [some (.ref sc), some (.ref s), y2, y3, y4, y5, y6, y7, y8]) ⟨sm, _, _, _, _, _, _, _, rfl⟩ (fun i σ H2 hi0 hW => ?_) (fun σ H2 hW => ?_)⟩
    case refine_2 =>
      obtain ⟨sm2, y2, y3, y4, y5, y6, y7, y8, rfl⟩ := hW
      have lf := lim_fits
      refine ⟨by show 8 ≤ sizeLine; decide, fun l nl => ?_⟩
      refine ⟨.ref l, rfl, _, limD, rfl, lim_dv upd_same rfl rfl, lf.sh, lf.ln, lf.dp, ?_⟩
      refine ⟨10, 9, rfl, rfl, ⟨by decide, by decide, by decide⟩, 10, 12, rfl, rfl, ⟨by decide, by decide, by decide⟩, by show 8 ≤ sizeLine; decide, fun l2 nl2 => ?_⟩
      have p9 : ((10 : Int) ^ (9 : Int).toNat) = 1000000000 := by decide
      have p12 : ((10 : Int) ^ (12 : Int).toNat) = 1000000000000 := by decide
      refine ⟨_, limD, rfl, lim_dv upd_same p9 p12, lf.sh, lf.ln, lf.dp, ?_⟩
      refine ⟨rfl, ?_⟩
      rw [decide_eq_true rfl]
      exact q _
    obtain ⟨sm2, y2, y3, y4, y5, y6, y7, y8, rfl⟩ := hW
    have hi : i < 12 := hi0
    refine ⟨.ref s, rfl, s, a, b, _, rfl, sm2, by omega, fun H3 v k3 sm3 it3 => ?_⟩
    obtain ⟨d, dv, sd⟩ := it3.less
    refine ⟨v, rfl, v, rfl, fun H4 L es s4 hL nL len all => ?_⟩
    refine ⟨L, _, rfl, .inl (.inl hL), fun i m σ H5 => Same H4 H5 ∧ i + m = 21 ∧ (∃ y2 y4 y5 y6 y7 y8, σ = [some (.ref sc), some (.ref s), y2, some v, y4, y5, y6, y7, y8]), ⟨21, Same.refl H4, by omega, ⟨_, _, _, _, _, _, rfl⟩⟩, fun i5 m σ H5 hW => ?_⟩
    obtain ⟨g5, im, ⟨z2, z4, z5, z6, z7, z8, rfl⟩⟩ := hW
    by_cases hi5 : i5 < 21
    · have le : i5 < (es.map V.ref).length := by rw [List.length_map]; omega
      have le' : i5 < es.length := by omega
      have lc : i5 < cl.length := by omega
      refine .inr ⟨⟨es.map V.ref, (es.map V.ref)[i5], .inl (.inl (g5 _ _ hL)), List.getElem?_eq_getElem le⟩, fun σ' H' => Same H4 H' ∧ (∃ y2 y4 y5 y6 y7 y8, σ' = [some (.ref sc), some (.ref s), y2, some v, y4, y5, y6, y7, y8]), fun σ' H' z => ⟨m - 1, by omega, z.1, by omega, z.2⟩, fun x H6 y => ?_⟩
      obtain ⟨T, x', rfl, nT, rfl, f1⟩ := y
      have ex : x' = .ref es[i5] := by
        have z := f1 _ (.inl (.inl (g5 _ _ hL)))
        rw [List.getElem?_eq_getElem le, List.getElem_map] at z
        exact (Option.some.inj z).symm
      subst ex
      have s6 := same_upd (o := .tup [.int (i5 : Nat), .ref es[i5]]) nT
      refine ⟨T, _, rfl, .inl (.inl upd_same), rfl, _, _, rfl, _, _, rfl, rfl, ?_⟩
      have g6 := g5.trans s6
      generalize upd H5 T (.tup [.int (i5 : Nat), .ref es[i5]]) = H6 at *
      have hc := List.getElem?_eq_getElem lc
      have er : ErrAt H6 es[i5] cl[i5] := (all i5 _ _ (List.getElem?_eq_getElem le') hc).keep g6
      have ev := EV _ (List.getElem_mem lc)
      -- _law_bases
      refine ⟨.ref es[i5], rfl, es[i5], cl[i5], .ref CE, .ref CE, _, rfl, er, ev, .own _, kE i5 _ hc, ?_⟩
      refine ⟨.ref es[i5], rfl, es[i5], cl[i5], .ty "ValueError", .type "ValueError", _, rfl, er, ev, .ty _, kV i5 _ hc, ?_⟩
      refine ⟨.ref es[i5], rfl, es[i5], cl[i5], .ty "LookupError", .type "LookupError", _, rfl, er, ev, .ty _, kL i5 _ hc, ?_⟩
      refine ⟨by show 3 ≤ sizeLine; decide, fun B nB => ?_⟩
      have s7 := same_upd (o := .lst ([decide ((i5 : Int) < 18), decide ((i5 : Int) < 18), decide (17 < (i5 : Int))].map V.bl)) nB
      have eB : (upd H6 B (.lst ([decide ((i5 : Int) < 18), decide ((i5 : Int) < 18), decide (17 < (i5 : Int))].map V.bl))) B = some (.lst ([decide ((i5 : Int) < 18), decide ((i5 : Int) < 18), decide (17 < (i5 : Int))].map V.bl)) := upd_same
      have g7 := g6.trans s7
      have er7 := er.keep s7
      refine ⟨.ref es[i5], rfl, es[i5], cl[i5], i5, rfl, hc, er7, fun H8 A1 s8 eA => ?_⟩
      have eB8 := s8 _ _ eB
      have g8 := g7.trans s8
      refine ⟨21, rfl, by decide, by decide, fun D nD => lc_range (n := (21 : Int).toNat) (fun j H9 => Same H8 H9 ∧ H9 D = some (.lst ((List.range j).map fun j => V.bl (decide (j = i5))))) ⟨same_upd nD, upd_same⟩ (fun j H9 hj p => ⟨rfl, ?_⟩) (fun H9 p => ?_)⟩
      · refine iteT (B := Same H8 H9 ∧ H9 D = some (.lst ((List.range (j + 1)).map fun j => V.bl (decide (j = i5))))) ?_
        refine ⟨_, rfl, _, rfl, rfl, ?_⟩
        obtain ⟨p1, p2⟩ := p
        refine ⟨_, p2, ?_, ?_, ?_⟩
        · rw [List.length_map, List.length_range]
          have : j < 21 := hj
          exact small_of (by omega)
        · intro c o hco
          have hne : c ≠ D := ne_of_none hco nD
          rw [upd_ne hne]
          exact p1 _ _ hco
        · rw [dec_eq, List.range_succ, List.map_append]
          exact upd_same
      · obtain ⟨p1, p2⟩ := p
        have hD : H9 D = some (.lst ((flagB i5).map V.bl)) := by rw [p2, flag_eq]; rfl
        have hA : H9 A1 = some (.lst ((flagB i5).map V.bl)) := by rw [p1 _ _ eA, flag_eq]
        have sh := bools_shaped (flagB i5)
        refine ⟨_, _, .lst (.inl (.inl hA)) (dpAll_bools _), .lst (.inl (.inl hD)) (dpAll_bools _), sh, sh, _, rfl, ?_⟩
        rw [bools_same]
        refine iteF ?_
        have g9 := g8.trans p1
        refine ⟨.ref B, rfl, .int i5, rfl, _, _, rfl, rfl, .int i5, rfl, _, _, rfl, rfl, .int i5, rfl, _, _, rfl, rfl, by show 3 ≤ sizeLine; decide, fun C nC => ?_⟩
        have s10 := same_upd (o := .lst ([decide ((i5 : Int) < 18), decide ((i5 : Int) < 18), decide (17 < (i5 : Int))].map V.bl)) nC
        have eC : (upd H9 C (.lst ([decide ((i5 : Int) < 18), decide ((i5 : Int) < 18), decide (17 < (i5 : Int))].map V.bl))) C = some (.lst ([decide ((i5 : Int) < 18), decide ((i5 : Int) < 18), decide (17 < (i5 : Int))].map V.bl)) := upd_same
        have sb := bools_shaped [decide ((i5 : Int) < 18), decide ((i5 : Int) < 18), decide (17 < (i5 : Int))]
        refine ⟨_, _, .lst (.inl (.inl (s10 _ _ (p1 _ _ eB8)))) (dpAll_bools _), .lst (.inl (.inl eC)) (dpAll_bools _), sb, sb, _, rfl, ?_⟩
        rw [bools_same]
        refine iteF ?_
        exact ⟨g9.trans s10, ⟨_, _, _, _, _, _, rfl⟩⟩
    · refine .inl ⟨⟨es.map V.ref, .inl (.inl (g5 _ _ hL)), by rw [List.length_map]; omega⟩, ?_⟩
      have rf := rep_fits sd
      refine ⟨v, rfl, v, rfl, fun H6 A1 s6 eA => ?_⟩
      have s36 := s4.trans (g5.trans s6)
      refine ⟨_, _, rfl, dv_rep eA id (dv.keep (Kp.of_same s36)), rf.sh, rf.ln, rf.dp, ?_⟩
      refine ⟨v, rfl, by show 1 ≤ sizeLine; decide, fun A2 n2 => ?_⟩
      have s7 := same_upd (o := .lst [v]) n2
      refine ⟨A2, 13, [v], rfl, rfl, upd_same, by decide, by decide, by show 13 ≤ sizeLine; decide, fun A3 n3 => ?_⟩
      have s8 := same_upd (o := .lst (List.replicate (13 : Int).toNat [v]).flatten) n3
      have e3 : (upd (upd H6 A2 (.lst [v])) A3 (.lst (List.replicate (13 : Int).toNat [v]).flatten)) A3 = some (.lst (List.replicate 13 v)) := upd_same
      have s38 := s36.trans (s7.trans s8)
      refine ⟨_, _, rfl, dv_rep e3 id (dv.keep (Kp.of_same s38)), rf.sh, rf.ln, rf.dp, ?_⟩
      refine ⟨rfl, _, rfl, iteNS rfl ?_⟩
      exact ⟨(sm3.keep s38).mono (by omega), _, _, _, _, _, _, _, rfl⟩
end
end Lw
namespace Lw
open PySem PySem.Spec PyProof.Rows L2 Gd
theorem exm_own {K : PySem.W.Frag} {S : Addr} (h1 : PySem.W.subIn K (.ref S) (.type "BaseException") = some true) (h2 : PySem.W.hasDictIn K S = true) (h3 : PySem.W.typeIn K (.ref S) = some (.type "type")) (h4 : PySem.W.subIn K (.ref S) (.ref S) = some true) :
    PySem.W.exmOne K (.ref S) (.ref S) = some true := PySem.W.exm_ref h1 h2 h3 h4
theorem rep_at {α β : Type} {f : α → β} {x : β} {n : Nat} {l : List α} (h : l.map f = List.replicate n x) (i : Nat) {a : α} (ha : l[i]? = some a) : f a = x := by
  have z : f a ∈ l.map f := List.mem_map_of_mem (List.mem_of_getElem? ha)
  rw [h] at z
  exact List.eq_of_mem_replicate z
theorem range_at {α β : Type} {f : α → β} {g : Nat → β} {n : Nat} {l : List α} (h : l.map f = (List.range n).map g) (i : Nat) {a : α} (ha : l[i]? = some a) : f a = g i := by
  have z : (l.map f)[i]? = some (f a) := by rw [List.getElem?_map, ha]; rfl
  rw [h, List.getElem?_map] at z
  cases e : (List.range n)[i]? with
  | none => rw [e] at z; cases z
  | some m =>
    rw [e] at z
    obtain ⟨h1, h2⟩ := List.getElem?_eq_some_iff.mp e
    rw [List.getElem_range] at h2
    subst h2
    exact (Option.some.inj z).symm
theorem all_mk {l : PySem.W.OpenLaw} {w : World} {K : PySem.W.Frag} {h : Heap} {mg : Str → Option Value} {fa f1 f2 f3 f4 f5 f6 f7 : Addr} (X : K.In h) (G : h.Ns mainGlobals mg) (hfa : mg "law" = some (.ref fa))
    {od1 an1 : Option Addr} {sl1 : Array (Option Value)} {oc1 kV1 dc1 pm1 cd1 ct1 : Value}
    {od2 an2 : Option Addr} {sl2 : Array (Option Value)} {oc2 kV2 dc2 pm2 cd2 ct2 : Value}
    {od3 an3 : Option Addr} {sl3 : Array (Option Value)} {oc3 kV3 dc3 pm3 cd3 ct3 : Value}
    {od4 an4 : Option Addr} {sl4 : Array (Option Value)} {oc4 kV4 dc4 pm4 cd4 ct4 : Value}
    {od5 an5 : Option Addr} {sl5 : Array (Option Value)} {oc5 kV5 dc5 pm5 cd5 ct5 : Value}
    {od6 an6 : Option Addr} {sl6 : Array (Option Value)} {oc6 kV6 dc6 pm6 cd6 ct6 : Value}
    {od7 an7 : Option Addr} {sl7 : Array (Option Value)} {oc7 kV7 dc7 pm7 cd7 ct7 : Value}
    {t1 t2 t3 t4 t5 t6 t7 t8 : Nat}
    {c0 c1 c2 c3 c4 c5 c6 c7 c8 c9 c10 c11 c12 c13 c14 c15 c16 c17 c18 c19 c20 CE : Addr}
    {i1 N1 : Addr} {nm1 qn1 : Str} {bs1 sub1 : List Value} {sn1 : List Str} {ab1 : Bool} {col1 : Option Bool} {dd1 odI1 anI1 : Option Addr} {m01 m11 m21 m31 m51 : Option Value} {slI1 : Array (Option Value)} {ocI1 dcI1 pmI1 cdI1 ctI1 : Value} {p11 p21 q11 q21 q31 q41 : Pos}
    {i3 N3 : Addr} {nm3 qn3 : Str} {bs3 sub3 : List Value} {sn3 : List Str} {ab3 : Bool} {col3 : Option Bool} {dd3 odI3 anI3 : Option Addr} {m03 m13 m23 m33 m53 : Option Value} {slI3 : Array (Option Value)} {ocI3 dcI3 pmI3 cdI3 ctI3 : Value} {p13 p23 q13 q23 q33 q43 : Pos}
    {i4 N4 : Addr} {nm4 qn4 : Str} {bs4 sub4 : List Value} {sn4 : List Str} {ab4 : Bool} {col4 : Option Bool} {dd4 odI4 anI4 : Option Addr} {m04 m14 m24 m34 m54 : Option Value} {slI4 : Array (Option Value)} {ocI4 dcI4 pmI4 cdI4 ctI4 : Value} {p14 p24 q14 q24 q34 q44 : Pos}
    {i5 N5 : Addr} {nm5 qn5 : Str} {bs5 sub5 : List Value} {sn5 : List Str} {ab5 : Bool} {col5 : Option Bool} {dd5 odI5 anI5 : Option Addr} {m05 m15 m25 m35 m55 : Option Value} {slI5 : Array (Option Value)} {ocI5 dcI5 pmI5 cdI5 ctI5 : Value} {p15 p25 q15 q25 q35 q45 : Pos}
    {i6 N6 : Addr} {nm6 qn6 : Str} {bs6 sub6 : List Value} {sn6 : List Str} {ab6 : Bool} {col6 : Option Bool} {dd6 odI6 anI6 : Option Addr} {m06 m16 m26 m36 m56 : Option Value} {slI6 : Array (Option Value)} {ocI6 dcI6 pmI6 cdI6 ctI6 : Value} {p16 p26 q16 q26 q36 q46 : Pos}
    {i7 N7 : Addr} {nm7 qn7 : Str} {bs7 sub7 : List Value} {sn7 : List Str} {ab7 : Bool} {col7 : Option Bool} {dd7 odI7 anI7 : Option Addr} {m07 m17 m27 m37 m57 : Option Value} {slI7 : Array (Option Value)} {ocI7 dcI7 pmI7 cdI7 ctI7 : Value} {p17 p27 q17 q27 q37 q47 : Pos}
    {i9 N9 : Addr} {nm9 qn9 : Str} {bs9 sub9 : List Value} {sn9 : List Str} {ab9 : Bool} {col9 : Option Bool} {dd9 odI9 anI9 : Option Addr} {m09 m19 m29 m39 m59 : Option Value} {slI9 : Array (Option Value)} {ocI9 dcI9 pmI9 cdI9 ctI9 : Value} {p19 p29 q19 q29 q39 q49 : Pos}
    {i14 N14 : Addr} {nm14 qn14 : Str} {bs14 sub14 : List Value} {sn14 : List Str} {ab14 : Bool} {col14 : Option Bool} {dd14 odI14 anI14 : Option Addr} {m014 m114 m214 m314 m514 : Option Value} {slI14 : Array (Option Value)} {ocI14 dcI14 pmI14 cdI14 ctI14 : Value} {p114 p214 q114 q214 q314 q414 : Pos}
    {i15 N15 : Addr} {nm15 qn15 : Str} {bs15 sub15 : List Value} {sn15 : List Str} {ab15 : Bool} {col15 : Option Bool} {dd15 odI15 anI15 : Option Addr} {m015 m115 m215 m315 m515 : Option Value} {slI15 : Array (Option Value)} {ocI15 dcI15 pmI15 cdI15 ctI15 : Value} {p115 p215 q115 q215 q315 q415 : Pos}
    {i17 N17 : Addr} {nm17 qn17 : Str} {bs17 sub17 : List Value} {sn17 : List Str} {ab17 : Bool} {col17 : Option Bool} {dd17 odI17 anI17 : Option Addr} {m017 m117 m217 m317 m517 : Option Value} {slI17 : Array (Option Value)} {ocI17 dcI17 pmI17 cdI17 ctI17 : Value} {p117 p217 q117 q217 q317 q417 : Pos}
    {i18 N18 : Addr} {nm18 qn18 : Str} {bs18 sub18 : List Value} {sn18 : List Str} {ab18 : Bool} {col18 : Option Bool} {dd18 odI18 anI18 : Option Addr} {m018 m118 m218 m318 m518 : Option Value} {slI18 : Array (Option Value)} {ocI18 dcI18 pmI18 cdI18 ctI18 : Value} {p118 p218 q118 q218 q318 q418 : Pos}
    {i19 N19 : Addr} {nm19 qn19 : Str} {bs19 sub19 : List Value} {sn19 : List Str} {ab19 : Bool} {col19 : Option Bool} {dd19 odI19 anI19 : Option Addr} {m019 m119 m219 m319 m519 : Option Value} {slI19 : Array (Option Value)} {ocI19 dcI19 pmI19 cdI19 ctI19 : Value} {p119 p219 q119 q219 q319 q419 : Pos}
    {i20 N20 : Addr} {nm20 qn20 : Str} {bs20 sub20 : List Value} {sn20 : List Str} {ab20 : Bool} {col20 : Option Bool} {dd20 odI20 anI20 : Option Addr} {m020 m120 m220 m320 m520 : Option Value} {slI20 : Array (Option Value)} {ocI20 dcI20 pmI20 cdI20 ctI20 : Value} {p120 p220 q120 q220 q320 q420 : Pos}
    (fa1 : PySem.W.nsIn K mainGlobals "_law_stream" = some (some (.ref f1)))
    (fl1 : K.lookup f1 = some ⟨oc1, od1, .func (PySem.W.fnOf "_law_stream" "_law_stream" (defArgs sStream) (defBody sStream) (defScope sStream) .none kV1 dc1 pm1 an1 cd1 ct1), sl1⟩)
    (fc1 : PySem.W.codeIn K cd1 "_law_stream" = true)
    (fk1 : PySem.W.keepIn K (.ref f1) = true)
    (fa2 : PySem.W.nsIn K mainGlobals "_law_draw" = some (some (.ref f2)))
    (fl2 : K.lookup f2 = some ⟨oc2, od2, .func (PySem.W.fnOf "_law_draw" "_law_draw" (defArgs sDraw) (defBody sDraw) (defScope sDraw) .none kV2 dc2 pm2 an2 cd2 ct2), sl2⟩)
    (fc2 : PySem.W.codeIn K cd2 "_law_draw" = true)
    (fk2 : PySem.W.keepIn K (.ref f2) = true)
    (fa3 : PySem.W.nsIn K mainGlobals "_law_odd" = some (some (.ref f3)))
    (fl3 : K.lookup f3 = some ⟨oc3, od3, .func (PySem.W.fnOf "_law_odd" "_law_odd" (defArgs sOdd) (defBody sOdd) (defScope sOdd) .none kV3 dc3 pm3 an3 cd3 ct3), sl3⟩)
    (fc3 : PySem.W.codeIn K cd3 "_law_odd" = true)
    (fk3 : PySem.W.keepIn K (.ref f3) = true)
    (fa4 : PySem.W.nsIn K mainGlobals "_law_made" = some (some (.ref f4)))
    (fl4 : K.lookup f4 = some ⟨oc4, od4, .func (PySem.W.fnOf "_law_made" "_law_made" (defArgs sMade) (defBody sMade) (defScope sMade) .none kV4 dc4 pm4 an4 cd4 ct4), sl4⟩)
    (fc4 : PySem.W.codeIn K cd4 "_law_made" = true)
    (fk4 : PySem.W.keepIn K (.ref f4) = true)
    (fa5 : PySem.W.nsIn K mainGlobals "_law_flags" = some (some (.ref f5)))
    (fl5 : K.lookup f5 = some ⟨oc5, od5, .func (PySem.W.fnOf "_law_flags" "_law_flags" (defArgs sFlags) (defBody sFlags) (defScope sFlags) .none kV5 dc5 pm5 an5 cd5 ct5), sl5⟩)
    (fc5 : PySem.W.codeIn K cd5 "_law_flags" = true)
    (fk5 : PySem.W.keepIn K (.ref f5) = true)
    (fa6 : PySem.W.nsIn K mainGlobals "_law_fields" = some (some (.ref f6)))
    (fl6 : K.lookup f6 = some ⟨oc6, od6, .func (PySem.W.fnOf "_law_fields" "_law_fields" (defArgs sFields) (defBody sFields) (defScope sFields) .none kV6 dc6 pm6 an6 cd6 ct6), sl6⟩)
    (fc6 : PySem.W.codeIn K cd6 "_law_fields" = true)
    (fk6 : PySem.W.keepIn K (.ref f6) = true)
    (fa7 : PySem.W.nsIn K mainGlobals "law" = some (some (.ref f7)))
    (fl7 : K.lookup f7 = some ⟨oc7, od7, .func (PySem.W.fnOf "law" "law" (defArgs sLaw) (defBody sLaw) (defScope sLaw) .none kV7 dc7 pm7 an7 cd7 ct7), sl7⟩)
    (fc7 : PySem.W.codeIn K cd7 "law" = true)
    (fk7 : PySem.W.keepIn K (.ref f7) = true)
    (z1 : PySem.W.nsIn K mainGlobals "len" = some none)
    (z2 : PySem.W.nsIn K mainGlobals "abs" = some none)
    (z3 : PySem.W.nsIn K mainGlobals "range" = some none)
    (z4 : PySem.W.nsIn K mainGlobals "repr" = some none)
    (z5 : PySem.W.nsIn K mainGlobals "enumerate" = some none)
    (z6 : PySem.W.nsIn K mainGlobals "isinstance" = some none)
    (z7 : PySem.W.nsIn K mainGlobals "ValueError" = some none)
    (z8 : PySem.W.nsIn K mainGlobals "LookupError" = some none)
    (y1 : PySem.W.nsIn K mainGlobals "MAX_PLACES" = some (some (.int 12 t1)))
    (y2 : PySem.W.nsIn K mainGlobals "MAX_ENTRY" = some (some (.int 1000000000 t2)))
    (y3 : PySem.W.nsIn K mainGlobals "MAX_COUNT" = some (some (.int 60 t3)))
    (y4 : PySem.W.nsIn K mainGlobals "MAX_CLAIMS" = some (some (.int 30 t4)))
    (y5 : PySem.W.nsIn K mainGlobals "MAX_TEXT" = some (some (.int 60 t5)))
    (y6 : PySem.W.nsIn K mainGlobals "MAX_TIMES" = some (some (.int 1000000000000 t6)))
    (y7 : PySem.W.nsIn K mainGlobals "MAX_EDITS" = some (some (.int 60 t7)))
    (y8 : PySem.W.nsIn K mainGlobals "BATCH" = some (some (.int 20 t8)))
    (aE : PySem.W.nsIn K mainGlobals "LeastError" = some (some (.ref CE)))
    (a0 : PySem.W.nsIn K mainGlobals "NoRows" = some (some (.ref c0)))
    (a1 : PySem.W.nsIn K mainGlobals "NotAlike" = some (some (.ref c1)))
    (a2 : PySem.W.nsIn K mainGlobals "NotShape" = some (some (.ref c2)))
    (a3 : PySem.W.nsIn K mainGlobals "BadTargets" = some (some (.ref c3)))
    (a4 : PySem.W.nsIn K mainGlobals "NoProperty" = some (some (.ref c4)))
    (a5 : PySem.W.nsIn K mainGlobals "BadWish" = some (some (.ref c5)))
    (a6 : PySem.W.nsIn K mainGlobals "BadSize" = some (some (.ref c6)))
    (a7 : PySem.W.nsIn K mainGlobals "NoClaim" = some (some (.ref c7)))
    (a8 : PySem.W.nsIn K mainGlobals "TooManyClaims" = some (some (.ref c8)))
    (a9 : PySem.W.nsIn K mainGlobals "Contradiction" = some (some (.ref c9)))
    (a10 : PySem.W.nsIn K mainGlobals "Needless" = some (some (.ref c10)))
    (a11 : PySem.W.nsIn K mainGlobals "TooManyEdits" = some (some (.ref c11)))
    (a12 : PySem.W.nsIn K mainGlobals "NothingToUndo" = some (some (.ref c12)))
    (a13 : PySem.W.nsIn K mainGlobals "BadEdits" = some (some (.ref c13)))
    (a14 : PySem.W.nsIn K mainGlobals "BadEdit" = some (some (.ref c14)))
    (a15 : PySem.W.nsIn K mainGlobals "Rejected" = some (some (.ref c15)))
    (a16 : PySem.W.nsIn K mainGlobals "Busy" = some (some (.ref c16)))
    (a17 : PySem.W.nsIn K mainGlobals "BadText" = some (some (.ref c17)))
    (a18 : PySem.W.nsIn K mainGlobals "NoWindow" = some (some (.ref c18)))
    (a19 : PySem.W.nsIn K mainGlobals "NoIndex" = some (some (.ref c19)))
    (a20 : PySem.W.nsIn K mainGlobals "NoVersion" = some (some (.ref c20)))
    (x1 : K.lookup c1 = some (excClassObj nm1 qn1 c1 N1 bs1 (.ref CE :: PySem.NotAlikeX.exTl) true sn1 sub1 ab1 col1 dd1 m01 m11 m21 m31 m51 "ValueError.__new__"))
    (h1 : PySem.W.findIn K (.ref c1) "__init__" = some (some (.ref i1)))
    (l1 : K.lookup i1 = some ⟨ocI1, odI1, .func (PySem.W.fnOf "__init__" "NotAlike.__init__" (PySem.NotAlikeX.iA p11 p21) (PySem.NotAlikeX.iB q11 q21 q31 q41) PySem.NotAlikeX.iS .none .none dcI1 pmI1 anI1 cdI1 ctI1), slI1⟩)
    (x3 : K.lookup c3 = some (excClassObj nm3 qn3 c3 N3 bs3 (.ref CE :: PySem.BadTargetsX.exTl) true sn3 sub3 ab3 col3 dd3 m03 m13 m23 m33 m53 "ValueError.__new__"))
    (h3 : PySem.W.findIn K (.ref c3) "__init__" = some (some (.ref i3)))
    (l3 : K.lookup i3 = some ⟨ocI3, odI3, .func (PySem.W.fnOf "__init__" "BadTargets.__init__" (PySem.BadTargetsX.iA p13 p23) (PySem.BadTargetsX.iB q13 q23 q33 q43) PySem.BadTargetsX.iS .none .none dcI3 pmI3 anI3 cdI3 ctI3), slI3⟩)
    (x4 : K.lookup c4 = some (excClassObj nm4 qn4 c4 N4 bs4 (.ref CE :: PySem.NoPropertyX.exTl) true sn4 sub4 ab4 col4 dd4 m04 m14 m24 m34 m54 "ValueError.__new__"))
    (h4 : PySem.W.findIn K (.ref c4) "__init__" = some (some (.ref i4)))
    (l4 : K.lookup i4 = some ⟨ocI4, odI4, .func (PySem.W.fnOf "__init__" "NoProperty.__init__" (PySem.NoPropertyX.iA p14 p24) (PySem.NoPropertyX.iB q14 q24 q34 q44) PySem.NoPropertyX.iS .none .none dcI4 pmI4 anI4 cdI4 ctI4), slI4⟩)
    (x5 : K.lookup c5 = some (excClassObj nm5 qn5 c5 N5 bs5 (.ref CE :: PySem.BadWishX.exTl) true sn5 sub5 ab5 col5 dd5 m05 m15 m25 m35 m55 "ValueError.__new__"))
    (h5 : PySem.W.findIn K (.ref c5) "__init__" = some (some (.ref i5)))
    (l5 : K.lookup i5 = some ⟨ocI5, odI5, .func (PySem.W.fnOf "__init__" "BadWish.__init__" (PySem.BadWishX.iA p15 p25) (PySem.BadWishX.iB q15 q25 q35 q45) PySem.BadWishX.iS .none .none dcI5 pmI5 anI5 cdI5 ctI5), slI5⟩)
    (x6 : K.lookup c6 = some (excClassObj nm6 qn6 c6 N6 bs6 (.ref CE :: PySem.BadSizeX.exTl) true sn6 sub6 ab6 col6 dd6 m06 m16 m26 m36 m56 "ValueError.__new__"))
    (h6 : PySem.W.findIn K (.ref c6) "__init__" = some (some (.ref i6)))
    (l6 : K.lookup i6 = some ⟨ocI6, odI6, .func (PySem.W.fnOf "__init__" "BadSize.__init__" (PySem.BadSizeX.iA p16 p26) (PySem.BadSizeX.iB q16 q26 q36 q46) PySem.BadSizeX.iS .none .none dcI6 pmI6 anI6 cdI6 ctI6), slI6⟩)
    (x7 : K.lookup c7 = some (excClassObj nm7 qn7 c7 N7 bs7 (.ref CE :: PySem.NoClaimX.exTl) true sn7 sub7 ab7 col7 dd7 m07 m17 m27 m37 m57 "ValueError.__new__"))
    (h7 : PySem.W.findIn K (.ref c7) "__init__" = some (some (.ref i7)))
    (l7 : K.lookup i7 = some ⟨ocI7, odI7, .func (PySem.W.fnOf "__init__" "NoClaim.__init__" (PySem.NoClaimX.iA p17 p27) (PySem.NoClaimX.iB q17 q27 q37 q47) PySem.NoClaimX.iS .none .none dcI7 pmI7 anI7 cdI7 ctI7), slI7⟩)
    (x9 : K.lookup c9 = some (excClassObj nm9 qn9 c9 N9 bs9 (.ref CE :: PySem.ContradictionX.exTl) true sn9 sub9 ab9 col9 dd9 m09 m19 m29 m39 m59 "ValueError.__new__"))
    (h9 : PySem.W.findIn K (.ref c9) "__init__" = some (some (.ref i9)))
    (l9 : K.lookup i9 = some ⟨ocI9, odI9, .func (PySem.W.fnOf "__init__" "Contradiction.__init__" (PySem.ContradictionX.iA p19 p29) (PySem.ContradictionX.iB q19 q29 q39 q49) PySem.ContradictionX.iS .none .none dcI9 pmI9 anI9 cdI9 ctI9), slI9⟩)
    (x14 : K.lookup c14 = some (excClassObj nm14 qn14 c14 N14 bs14 (.ref CE :: PySem.BadEditX.exTl) true sn14 sub14 ab14 col14 dd14 m014 m114 m214 m314 m514 "ValueError.__new__"))
    (h14 : PySem.W.findIn K (.ref c14) "__init__" = some (some (.ref i14)))
    (l14 : K.lookup i14 = some ⟨ocI14, odI14, .func (PySem.W.fnOf "__init__" "BadEdit.__init__" (PySem.BadEditX.iA p114 p214) (PySem.BadEditX.iB q114 q214 q314 q414) PySem.BadEditX.iS .none .none dcI14 pmI14 anI14 cdI14 ctI14), slI14⟩)
    (x15 : K.lookup c15 = some (excClassObj nm15 qn15 c15 N15 bs15 (.ref CE :: PySem.RejectedX.exTl) true sn15 sub15 ab15 col15 dd15 m015 m115 m215 m315 m515 "ValueError.__new__"))
    (h15 : PySem.W.findIn K (.ref c15) "__init__" = some (some (.ref i15)))
    (l15 : K.lookup i15 = some ⟨ocI15, odI15, .func (PySem.W.fnOf "__init__" "Rejected.__init__" (PySem.RejectedX.iA p115 p215) (PySem.RejectedX.iB q115 q215 q315 q415) PySem.RejectedX.iS .none .none dcI15 pmI15 anI15 cdI15 ctI15), slI15⟩)
    (x17 : K.lookup c17 = some (excClassObj nm17 qn17 c17 N17 bs17 (.ref CE :: PySem.BadTextX.exTl) true sn17 sub17 ab17 col17 dd17 m017 m117 m217 m317 m517 "ValueError.__new__"))
    (h17 : PySem.W.findIn K (.ref c17) "__init__" = some (some (.ref i17)))
    (l17 : K.lookup i17 = some ⟨ocI17, odI17, .func (PySem.W.fnOf "__init__" "BadText.__init__" (PySem.BadTextX.iA p117 p217) (PySem.BadTextX.iB q117 q217 q317 q417) PySem.BadTextX.iS .none .none dcI17 pmI17 anI17 cdI17 ctI17), slI17⟩)
    (x18 : K.lookup c18 = some (excClassObj nm18 qn18 c18 N18 bs18 PySem.NoWindowX.exTl true sn18 sub18 ab18 col18 dd18 m018 m118 m218 m318 m518 "LookupError.__new__"))
    (h18 : PySem.W.findIn K (.ref c18) "__init__" = some (some (.ref i18)))
    (l18 : K.lookup i18 = some ⟨ocI18, odI18, .func (PySem.W.fnOf "__init__" "NoWindow.__init__" (PySem.NoWindowX.iA p118 p218) (PySem.NoWindowX.iB q118 q218 q318 q418) PySem.NoWindowX.iS .none .none dcI18 pmI18 anI18 cdI18 ctI18), slI18⟩)
    (x19 : K.lookup c19 = some (excClassObj nm19 qn19 c19 N19 bs19 PySem.NoIndexX.exTl true sn19 sub19 ab19 col19 dd19 m019 m119 m219 m319 m519 "LookupError.__new__"))
    (h19 : PySem.W.findIn K (.ref c19) "__init__" = some (some (.ref i19)))
    (l19 : K.lookup i19 = some ⟨ocI19, odI19, .func (PySem.W.fnOf "__init__" "NoIndex.__init__" (PySem.NoIndexX.iA p119 p219) (PySem.NoIndexX.iB q119 q219 q319 q419) PySem.NoIndexX.iS .none .none dcI19 pmI19 anI19 cdI19 ctI19), slI19⟩)
    (x20 : K.lookup c20 = some (excClassObj nm20 qn20 c20 N20 bs20 PySem.NoVersionX.exTl true sn20 sub20 ab20 col20 dd20 m020 m120 m220 m320 m520 "LookupError.__new__"))
    (h20 : PySem.W.findIn K (.ref c20) "__init__" = some (some (.ref i20)))
    (l20 : K.lookup i20 = some ⟨ocI20, odI20, .func (PySem.W.fnOf "__init__" "NoVersion.__init__" (PySem.NoVersionX.iA p120 p220) (PySem.NoVersionX.iB q120 q220 q320 q420) PySem.NoVersionX.iS .none .none dcI20 pmI20 anI20 cdI20 ctI20), slI20⟩)
    (b1 : (clsL c0 c1 c2 c3 c4 c5 c6 c7 c8 c9 c10 c11 c12 c13 c14 c15 c16 c17 c18 c19 c20).map (fun c => (PySem.W.clsIn K c).isSome) = List.replicate 21 true)
    (b2 : (clsL c0 c1 c2 c3 c4 c5 c6 c7 c8 c9 c10 c11 c12 c13 c14 c15 c16 c17 c18 c19 c20).map (fun c => PySem.W.findIn K (.ref c) "__getattribute__") = List.replicate 21 (some (some (.builtin "BaseException.__getattribute__"))))
    (b3 : (clsL c0 c1 c2 c3 c4 c5 c6 c7 c8 c9 c10 c11 c12 c13 c14 c15 c16 c17 c18 c19 c20).map (fun c => PySem.W.findIn K (.ref c) "__getattr__") = List.replicate 21 (some none))
    (b4 : (clsL c0 c1 c2 c3 c4 c5 c6 c7 c8 c9 c10 c11 c12 c13 c14 c15 c16 c17 c18 c19 c20).map (fun c => PySem.W.subIn K (.ref c) (.type "BaseException")) = List.replicate 21 (some true))
    (b5 : (clsL c0 c1 c2 c3 c4 c5 c6 c7 c8 c9 c10 c11 c12 c13 c14 c15 c16 c17 c18 c19 c20).map (fun c => PySem.W.findIn K (.ref c) "__class__") = List.replicate 21 (some (some (.builtin "object.__class__"))))
    (b6 : (clsL c0 c1 c2 c3 c4 c5 c6 c7 c8 c9 c10 c11 c12 c13 c14 c15 c16 c17 c18 c19 c20).map (fun c => PySem.W.mroIn K c (.type "object")) = List.replicate 21 (some true))
    (b7 : (clsL c0 c1 c2 c3 c4 c5 c6 c7 c8 c9 c10 c11 c12 c13 c14 c15 c16 c17 c18 c19 c20).map (fun c => PySem.W.keepIn K (.ref c)) = List.replicate 21 true)
    (cg : PySem.W.specialIn K (.builtin "object.__class__") "__get__" = some (some (.builtin "getset_descriptor.__get__")))
    (ctk : PySem.W.takesIn K (.builtin "object.__class__") = some true)
    (kt : (clsL c0 c1 c2 c3 c4 c5 c6 c7 c8 c9 c10 c11 c12 c13 c14 c15 c16 c17 c18 c19 c20).map (fun c => (clsL c0 c1 c2 c3 c4 c5 c6 c7 c8 c9 c10 c11 c12 c13 c14 c15 c16 c17 c18 c19 c20).map fun c' => PySem.W.kitOne K (.ref c) (.ref c')) = (List.range 21).map fun i => (List.range 21).map fun j => some (decide (j = i)))
    (kE : (clsL c0 c1 c2 c3 c4 c5 c6 c7 c8 c9 c10 c11 c12 c13 c14 c15 c16 c17 c18 c19 c20).map (fun c => PySem.W.kitOne K (.ref c) (.ref CE)) = (List.range 21).map fun (i : Nat) => some (decide ((i : Int) < 18)))
    (kV : (clsL c0 c1 c2 c3 c4 c5 c6 c7 c8 c9 c10 c11 c12 c13 c14 c15 c16 c17 c18 c19 c20).map (fun c => PySem.W.kitOne K (.ref c) (.type "ValueError")) = (List.range 21).map fun (i : Nat) => some (decide ((i : Int) < 18)))
    (kL : (clsL c0 c1 c2 c3 c4 c5 c6 c7 c8 c9 c10 c11 c12 c13 c14 c15 c16 c17 c18 c19 c20).map (fun c => PySem.W.kitOne K (.ref c) (.type "LookupError")) = (List.range 21).map fun (i : Nat) => some (decide (17 < (i : Int))))
    (d1 : [c1, c3, c4, c5, c6, c7, c9, c14, c15, c17, c18, c19, c20].map (fun c => PySem.W.findIn K (.ref c) "__setattr__") = List.replicate 13 (some (some (.builtin "object.__setattr__"))))
    (d2 : [c1, c3, c4, c5, c6, c7, c9, c14, c15, c17, c18, c19, c20].map (fun c => PySem.W.typeIn K (.ref c)) = List.replicate 13 (some (.type "type")))
    (d3 : [c1, c3, c4, c5, c6, c7, c9, c14, c15, c17, c18, c19, c20].map (fun c => PySem.W.hasDictIn K c) = List.replicate 13 true)
    (d4 : [c1, c3, c4, c5, c6, c7, c9, c14, c15, c17, c18, c19, c20].map (fun c => PySem.W.subIn K (.ref c) (.ref c)) = List.replicate 13 (some true))
    (d5 : [((c1 : Addr), ("index" : Str)), ((c3 : Addr), ("value" : Str)), ((c4 : Addr), ("name" : Str)), ((c5 : Addr), ("value" : Str)), ((c6 : Addr), ("value" : Str)), ((c7 : Addr), ("value" : Str)), ((c9 : Addr), ("ring" : Str)), ((c14 : Addr), ("index" : Str)), ((c15 : Addr), ("index" : Str)), ((c17 : Addr), ("index" : Str)), ((c18 : Addr), ("value" : Str)), ((c19 : Addr), ("value" : Str)), ((c20 : Addr), ("value" : Str))].map (fun c => PySem.W.findIn K (.ref c.1) c.2) = List.replicate 13 (some none))
    (d6 : [i1, i3, i4, i5, i6, i7, i9, i14, i15, i17, i18, i19, i20].map (fun c => PySem.W.typeIn K (.ref c)) = List.replicate 13 (some (.type "function")))
    (d7 : [((cdI1 : Value), ("NotAlike.__init__" : Str)), ((cdI3 : Value), ("BadTargets.__init__" : Str)), ((cdI4 : Value), ("NoProperty.__init__" : Str)), ((cdI5 : Value), ("BadWish.__init__" : Str)), ((cdI6 : Value), ("BadSize.__init__" : Str)), ((cdI7 : Value), ("NoClaim.__init__" : Str)), ((cdI9 : Value), ("Contradiction.__init__" : Str)), ((cdI14 : Value), ("BadEdit.__init__" : Str)), ((cdI15 : Value), ("Rejected.__init__" : Str)), ((cdI17 : Value), ("BadText.__init__" : Str)), ((cdI18 : Value), ("NoWindow.__init__" : Str)), ((cdI19 : Value), ("NoIndex.__init__" : Str)), ((cdI20 : Value), ("NoVersion.__init__" : Str))].map (fun c => PySem.W.codeIn K c.1 c.2) = List.replicate 13 true)
    (e1 : [c0, c2, c8, c10, c11, c12, c13, c16].map (fun c => PySem.W.excIn K c veT "ValueError.__new__") = List.replicate 8 true) :
    ∃ fd : FuncData, (∀ (s : Shared) (v : Value), BindsTo s fd ⟨[v], []⟩ [("_law_script", v)]) ∧ ∀ base : Heap, K.In base → base.Ns mainGlobals mg → FnG l.prog w K mg base CX0 4 fa fd ["_law_script"] (spLaw K) := by
  have e := hfa.symm.trans (PySem.W.mg_of X G fa7)
  cases e
  have F1 := fun_mk (st := sStream) fl1 fc1 fk1
  have B1 := F1.binds (ps := ["_law_script"]) fun _ _ _ _ _ _ us hl => match us, hl with | [_], _ => rfl
  have g1 := PySem.W.mg_of X G fa1
  have F2 := fun_mk (st := sDraw) fl2 fc2 fk2
  have B2 := F2.binds (ps := ["_law_stream_here", "_law_many"]) fun _ _ _ _ _ _ us hl => match us, hl with | [_, _], _ => rfl
  have g2 := PySem.W.mg_of X G fa2
  have F3 := fun_mk (st := sOdd) fl3 fc3 fk3
  have B3 := F3.binds (ps := ["_law_stream_here"]) fun _ _ _ _ _ _ us hl => match us, hl with | [_], _ => rfl
  have g3 := PySem.W.mg_of X G fa3
  have F4 := fun_mk (st := sMade) fl4 fc4 fk4
  have B4 := F4.binds (ps := ["_law_value"]) fun _ _ _ _ _ _ us hl => match us, hl with | [_], _ => rfl
  have g4 := PySem.W.mg_of X G fa4
  have F5 := fun_mk (st := sFlags) fl5 fc5 fk5
  have B5 := F5.binds (ps := ["_law_error"]) fun _ _ _ _ _ _ us hl => match us, hl with | [_], _ => rfl
  have g5 := PySem.W.mg_of X G fa5
  have F6 := fun_mk (st := sFields) fl6 fc6 fk6
  have B6 := F6.binds (ps := ["_law_value"]) fun _ _ _ _ _ _ us hl => match us, hl with | [_], _ => rfl
  have g6 := PySem.W.mg_of X G fa6
  have F7 := fun_mk (st := sLaw) fl7 fc7 fk7
  have B7 := F7.binds (ps := ["_law_script"]) fun _ _ _ _ _ _ us hl => match us, hl with | [_], _ => rfl
  have g7 := PySem.W.mg_of X G fa7
  have n1 := PySem.W.mg_none_of X G z1
  have n2 := PySem.W.mg_none_of X G z2
  have n3 := PySem.W.mg_none_of X G z3
  have n4 := PySem.W.mg_none_of X G z4
  have n5 := PySem.W.mg_none_of X G z5
  have n6 := PySem.W.mg_none_of X G z6
  have n7 := PySem.W.mg_none_of X G z7
  have n8 := PySem.W.mg_none_of X G z8
  have T1 : PySem.NotAlikeX.NotAlikeTxt K mg c1 i1 :=
    { gC := PySem.W.mg_of X G a1, cls := ⟨nm1, qn1, N1, bs1, _, sn1, sub1, ab1, col1, dd1, m01, m11, m21, m31, m51, x1, by rfl⟩, sa := rep_at d1 0 (a := c1) rfl, ga := rep_at b2 1 (a := c1) rfl, gg := rep_at b3 1 (a := c1) rfl, noN := rep_at d5 0 (a := (c1, _)) rfl, iC := h1, tC := rep_at d6 0 (a := i1) rfl, kC := rep_at b7 1 (a := c1) rfl, exC := rep_at b4 1 (a := c1) rfl, tyC := rep_at d2 0 (a := c1) rfl, hdC := rep_at d3 0 (a := c1) rfl,
      te := exm_own (rep_at b4 1 (a := c1) rfl) (rep_at d3 0 (a := c1) rfl) (rep_at d2 0 (a := c1) rfl) (rep_at d4 0 (a := c1) rfl), fn := ⟨_, _, _, _, _, _, _, _, _, _, _, _, _, _, l1, rep_at d7 0 (a := (cdI1, _)) rfl⟩ }
  have T3 : PySem.BadTargetsX.BadTargetsTxt K mg c3 i3 :=
    { gC := PySem.W.mg_of X G a3, cls := ⟨nm3, qn3, N3, bs3, _, sn3, sub3, ab3, col3, dd3, m03, m13, m23, m33, m53, x3, by rfl⟩, sa := rep_at d1 1 (a := c3) rfl, ga := rep_at b2 3 (a := c3) rfl, gg := rep_at b3 3 (a := c3) rfl, noN := rep_at d5 1 (a := (c3, _)) rfl, iC := h3, tC := rep_at d6 1 (a := i3) rfl, kC := rep_at b7 3 (a := c3) rfl, exC := rep_at b4 3 (a := c3) rfl, tyC := rep_at d2 1 (a := c3) rfl, hdC := rep_at d3 1 (a := c3) rfl,
      te := exm_own (rep_at b4 3 (a := c3) rfl) (rep_at d3 1 (a := c3) rfl) (rep_at d2 1 (a := c3) rfl) (rep_at d4 1 (a := c3) rfl), fn := ⟨_, _, _, _, _, _, _, _, _, _, _, _, _, _, l3, rep_at d7 1 (a := (cdI3, _)) rfl⟩ }
  have T4 : PySem.NoPropertyX.NoPropertyTxt K mg c4 i4 :=
    { gC := PySem.W.mg_of X G a4, cls := ⟨nm4, qn4, N4, bs4, _, sn4, sub4, ab4, col4, dd4, m04, m14, m24, m34, m54, x4, by rfl⟩, sa := rep_at d1 2 (a := c4) rfl, ga := rep_at b2 4 (a := c4) rfl, gg := rep_at b3 4 (a := c4) rfl, noN := rep_at d5 2 (a := (c4, _)) rfl, iC := h4, tC := rep_at d6 2 (a := i4) rfl, kC := rep_at b7 4 (a := c4) rfl, exC := rep_at b4 4 (a := c4) rfl, tyC := rep_at d2 2 (a := c4) rfl, hdC := rep_at d3 2 (a := c4) rfl,
      te := exm_own (rep_at b4 4 (a := c4) rfl) (rep_at d3 2 (a := c4) rfl) (rep_at d2 2 (a := c4) rfl) (rep_at d4 2 (a := c4) rfl), fn := ⟨_, _, _, _, _, _, _, _, _, _, _, _, _, _, l4, rep_at d7 2 (a := (cdI4, _)) rfl⟩ }
  have T5 : PySem.BadWishX.BadWishTxt K mg c5 i5 :=
    { gC := PySem.W.mg_of X G a5, cls := ⟨nm5, qn5, N5, bs5, _, sn5, sub5, ab5, col5, dd5, m05, m15, m25, m35, m55, x5, by rfl⟩, sa := rep_at d1 3 (a := c5) rfl, ga := rep_at b2 5 (a := c5) rfl, gg := rep_at b3 5 (a := c5) rfl, noN := rep_at d5 3 (a := (c5, _)) rfl, iC := h5, tC := rep_at d6 3 (a := i5) rfl, kC := rep_at b7 5 (a := c5) rfl, exC := rep_at b4 5 (a := c5) rfl, tyC := rep_at d2 3 (a := c5) rfl, hdC := rep_at d3 3 (a := c5) rfl,
      te := exm_own (rep_at b4 5 (a := c5) rfl) (rep_at d3 3 (a := c5) rfl) (rep_at d2 3 (a := c5) rfl) (rep_at d4 3 (a := c5) rfl), fn := ⟨_, _, _, _, _, _, _, _, _, _, _, _, _, _, l5, rep_at d7 3 (a := (cdI5, _)) rfl⟩ }
  have T6 : PySem.BadSizeX.BadSizeTxt K mg c6 i6 :=
    { gC := PySem.W.mg_of X G a6, cls := ⟨nm6, qn6, N6, bs6, _, sn6, sub6, ab6, col6, dd6, m06, m16, m26, m36, m56, x6, by rfl⟩, sa := rep_at d1 4 (a := c6) rfl, ga := rep_at b2 6 (a := c6) rfl, gg := rep_at b3 6 (a := c6) rfl, noN := rep_at d5 4 (a := (c6, _)) rfl, iC := h6, tC := rep_at d6 4 (a := i6) rfl, kC := rep_at b7 6 (a := c6) rfl, exC := rep_at b4 6 (a := c6) rfl, tyC := rep_at d2 4 (a := c6) rfl, hdC := rep_at d3 4 (a := c6) rfl,
      te := exm_own (rep_at b4 6 (a := c6) rfl) (rep_at d3 4 (a := c6) rfl) (rep_at d2 4 (a := c6) rfl) (rep_at d4 4 (a := c6) rfl), fn := ⟨_, _, _, _, _, _, _, _, _, _, _, _, _, _, l6, rep_at d7 4 (a := (cdI6, _)) rfl⟩ }
  have T7 : PySem.NoClaimX.NoClaimTxt K mg c7 i7 :=
    { gC := PySem.W.mg_of X G a7, cls := ⟨nm7, qn7, N7, bs7, _, sn7, sub7, ab7, col7, dd7, m07, m17, m27, m37, m57, x7, by rfl⟩, sa := rep_at d1 5 (a := c7) rfl, ga := rep_at b2 7 (a := c7) rfl, gg := rep_at b3 7 (a := c7) rfl, noN := rep_at d5 5 (a := (c7, _)) rfl, iC := h7, tC := rep_at d6 5 (a := i7) rfl, kC := rep_at b7 7 (a := c7) rfl, exC := rep_at b4 7 (a := c7) rfl, tyC := rep_at d2 5 (a := c7) rfl, hdC := rep_at d3 5 (a := c7) rfl,
      te := exm_own (rep_at b4 7 (a := c7) rfl) (rep_at d3 5 (a := c7) rfl) (rep_at d2 5 (a := c7) rfl) (rep_at d4 5 (a := c7) rfl), fn := ⟨_, _, _, _, _, _, _, _, _, _, _, _, _, _, l7, rep_at d7 5 (a := (cdI7, _)) rfl⟩ }
  have T9 : PySem.ContradictionX.ContradictionTxt K mg c9 i9 :=
    { gC := PySem.W.mg_of X G a9, cls := ⟨nm9, qn9, N9, bs9, _, sn9, sub9, ab9, col9, dd9, m09, m19, m29, m39, m59, x9, by rfl⟩, sa := rep_at d1 6 (a := c9) rfl, ga := rep_at b2 9 (a := c9) rfl, gg := rep_at b3 9 (a := c9) rfl, noN := rep_at d5 6 (a := (c9, _)) rfl, iC := h9, tC := rep_at d6 6 (a := i9) rfl, kC := rep_at b7 9 (a := c9) rfl, exC := rep_at b4 9 (a := c9) rfl, tyC := rep_at d2 6 (a := c9) rfl, hdC := rep_at d3 6 (a := c9) rfl,
      te := exm_own (rep_at b4 9 (a := c9) rfl) (rep_at d3 6 (a := c9) rfl) (rep_at d2 6 (a := c9) rfl) (rep_at d4 6 (a := c9) rfl), fn := ⟨_, _, _, _, _, _, _, _, _, _, _, _, _, _, l9, rep_at d7 6 (a := (cdI9, _)) rfl⟩ }
  have T14 : PySem.BadEditX.BadEditTxt K mg c14 i14 :=
    { gC := PySem.W.mg_of X G a14, cls := ⟨nm14, qn14, N14, bs14, _, sn14, sub14, ab14, col14, dd14, m014, m114, m214, m314, m514, x14, by rfl⟩, sa := rep_at d1 7 (a := c14) rfl, ga := rep_at b2 14 (a := c14) rfl, gg := rep_at b3 14 (a := c14) rfl, noN := rep_at d5 7 (a := (c14, _)) rfl, iC := h14, tC := rep_at d6 7 (a := i14) rfl, kC := rep_at b7 14 (a := c14) rfl, exC := rep_at b4 14 (a := c14) rfl, tyC := rep_at d2 7 (a := c14) rfl, hdC := rep_at d3 7 (a := c14) rfl,
      te := exm_own (rep_at b4 14 (a := c14) rfl) (rep_at d3 7 (a := c14) rfl) (rep_at d2 7 (a := c14) rfl) (rep_at d4 7 (a := c14) rfl), fn := ⟨_, _, _, _, _, _, _, _, _, _, _, _, _, _, l14, rep_at d7 7 (a := (cdI14, _)) rfl⟩ }
  have T15 : PySem.RejectedX.RejectedTxt K mg c15 i15 :=
    { gC := PySem.W.mg_of X G a15, cls := ⟨nm15, qn15, N15, bs15, _, sn15, sub15, ab15, col15, dd15, m015, m115, m215, m315, m515, x15, by rfl⟩, sa := rep_at d1 8 (a := c15) rfl, ga := rep_at b2 15 (a := c15) rfl, gg := rep_at b3 15 (a := c15) rfl, noN := rep_at d5 8 (a := (c15, _)) rfl, iC := h15, tC := rep_at d6 8 (a := i15) rfl, kC := rep_at b7 15 (a := c15) rfl, exC := rep_at b4 15 (a := c15) rfl, tyC := rep_at d2 8 (a := c15) rfl, hdC := rep_at d3 8 (a := c15) rfl,
      te := exm_own (rep_at b4 15 (a := c15) rfl) (rep_at d3 8 (a := c15) rfl) (rep_at d2 8 (a := c15) rfl) (rep_at d4 8 (a := c15) rfl), fn := ⟨_, _, _, _, _, _, _, _, _, _, _, _, _, _, l15, rep_at d7 8 (a := (cdI15, _)) rfl⟩ }
  have T17 : PySem.BadTextX.BadTextTxt K mg c17 i17 :=
    { gC := PySem.W.mg_of X G a17, cls := ⟨nm17, qn17, N17, bs17, _, sn17, sub17, ab17, col17, dd17, m017, m117, m217, m317, m517, x17, by rfl⟩, sa := rep_at d1 9 (a := c17) rfl, ga := rep_at b2 17 (a := c17) rfl, gg := rep_at b3 17 (a := c17) rfl, noN := rep_at d5 9 (a := (c17, _)) rfl, iC := h17, tC := rep_at d6 9 (a := i17) rfl, kC := rep_at b7 17 (a := c17) rfl, exC := rep_at b4 17 (a := c17) rfl, tyC := rep_at d2 9 (a := c17) rfl, hdC := rep_at d3 9 (a := c17) rfl,
      te := exm_own (rep_at b4 17 (a := c17) rfl) (rep_at d3 9 (a := c17) rfl) (rep_at d2 9 (a := c17) rfl) (rep_at d4 9 (a := c17) rfl), fn := ⟨_, _, _, _, _, _, _, _, _, _, _, _, _, _, l17, rep_at d7 9 (a := (cdI17, _)) rfl⟩ }
  have T18 : PySem.NoWindowX.NoWindowTxt K mg c18 i18 :=
    { gC := PySem.W.mg_of X G a18, cls := ⟨nm18, qn18, N18, bs18, _, sn18, sub18, ab18, col18, dd18, m018, m118, m218, m318, m518, x18, by rfl⟩, sa := rep_at d1 10 (a := c18) rfl, ga := rep_at b2 18 (a := c18) rfl, gg := rep_at b3 18 (a := c18) rfl, noN := rep_at d5 10 (a := (c18, _)) rfl, iC := h18, tC := rep_at d6 10 (a := i18) rfl, kC := rep_at b7 18 (a := c18) rfl, exC := rep_at b4 18 (a := c18) rfl, tyC := rep_at d2 10 (a := c18) rfl, hdC := rep_at d3 10 (a := c18) rfl,
      te := exm_own (rep_at b4 18 (a := c18) rfl) (rep_at d3 10 (a := c18) rfl) (rep_at d2 10 (a := c18) rfl) (rep_at d4 10 (a := c18) rfl), fn := ⟨_, _, _, _, _, _, _, _, _, _, _, _, _, _, l18, rep_at d7 10 (a := (cdI18, _)) rfl⟩ }
  have T19 : PySem.NoIndexX.NoIndexTxt K mg c19 i19 :=
    { gC := PySem.W.mg_of X G a19, cls := ⟨nm19, qn19, N19, bs19, _, sn19, sub19, ab19, col19, dd19, m019, m119, m219, m319, m519, x19, by rfl⟩, sa := rep_at d1 11 (a := c19) rfl, ga := rep_at b2 19 (a := c19) rfl, gg := rep_at b3 19 (a := c19) rfl, noN := rep_at d5 11 (a := (c19, _)) rfl, iC := h19, tC := rep_at d6 11 (a := i19) rfl, kC := rep_at b7 19 (a := c19) rfl, exC := rep_at b4 19 (a := c19) rfl, tyC := rep_at d2 11 (a := c19) rfl, hdC := rep_at d3 11 (a := c19) rfl,
      te := exm_own (rep_at b4 19 (a := c19) rfl) (rep_at d3 11 (a := c19) rfl) (rep_at d2 11 (a := c19) rfl) (rep_at d4 11 (a := c19) rfl), fn := ⟨_, _, _, _, _, _, _, _, _, _, _, _, _, _, l19, rep_at d7 11 (a := (cdI19, _)) rfl⟩ }
  have T20 : PySem.NoVersionX.NoVersionTxt K mg c20 i20 :=
    { gC := PySem.W.mg_of X G a20, cls := ⟨nm20, qn20, N20, bs20, _, sn20, sub20, ab20, col20, dd20, m020, m120, m220, m320, m520, x20, by rfl⟩, sa := rep_at d1 12 (a := c20) rfl, ga := rep_at b2 20 (a := c20) rfl, gg := rep_at b3 20 (a := c20) rfl, noN := rep_at d5 12 (a := (c20, _)) rfl, iC := h20, tC := rep_at d6 12 (a := i20) rfl, kC := rep_at b7 20 (a := c20) rfl, exC := rep_at b4 20 (a := c20) rfl, tyC := rep_at d2 12 (a := c20) rfl, hdC := rep_at d3 12 (a := c20) rfl,
      te := exm_own (rep_at b4 20 (a := c20) rfl) (rep_at d3 12 (a := c20) rfl) (rep_at d2 12 (a := c20) rfl) (rep_at d4 12 (a := c20) rfl), fn := ⟨_, _, _, _, _, _, _, _, _, _, _, _, _, _, l20, rep_at d7 12 (a := (cdI20, _)) rfl⟩ }
  have T : Cls K mg c0 c1 c2 c3 c4 c5 c6 c7 c8 c9 c10 c11 c12 c13 c14 c15 c16 c17 c18 c19 c20 i1 i3 i4 i5 i6 i7 i9 i14 i15 i17 i18 i19 i20 :=
    { g0 := PySem.W.mg_of X G a0, x0 := rep_at e1 0 (a := c0) rfl, k0 := rep_at b7 0 (a := c0) rfl, t1 := T1, g2 := PySem.W.mg_of X G a2, x2 := rep_at e1 1 (a := c2) rfl, k2 := rep_at b7 2 (a := c2) rfl, t3 := T3, t4 := T4, t5 := T5, t6 := T6, t7 := T7, g8 := PySem.W.mg_of X G a8, x8 := rep_at e1 2 (a := c8) rfl, k8 := rep_at b7 8 (a := c8) rfl, t9 := T9, g10 := PySem.W.mg_of X G a10, x10 := rep_at e1 3 (a := c10) rfl, k10 := rep_at b7 10 (a := c10) rfl, g11 := PySem.W.mg_of X G a11, x11 := rep_at e1 4 (a := c11) rfl, k11 := rep_at b7 11 (a := c11) rfl, g12 := PySem.W.mg_of X G a12, x12 := rep_at e1 5 (a := c12) rfl, k12 := rep_at b7 12 (a := c12) rfl, g13 := PySem.W.mg_of X G a13, x13 := rep_at e1 6 (a := c13) rfl, k13 := rep_at b7 13 (a := c13) rfl, t14 := T14, t15 := T15, g16 := PySem.W.mg_of X G a16, x16 := rep_at e1 7 (a := c16) rfl, k16 := rep_at b7 16 (a := c16) rfl, t17 := T17, t18 := T18, t19 := T19, t20 := T20 }
  have EV : ∀ c ∈ (clsL c0 c1 c2 c3 c4 c5 c6 c7 c8 c9 c10 c11 c12 c13 c14 c15 c16 c17 c18 c19 c20), ExcV K c := fun c hc => by
    obtain ⟨i, hi⟩ := List.getElem?_of_mem hc
    exact ⟨rep_at b1 i hi, rep_at b2 i hi, rep_at b3 i hi, rep_at b4 i hi, rep_at b5 i hi, cg, ctk, rep_at b6 i hi⟩
  have kit : ∀ (i j : Nat) (c c' : Addr), (clsL c0 c1 c2 c3 c4 c5 c6 c7 c8 c9 c10 c11 c12 c13 c14 c15 c16 c17 c18 c19 c20)[i]? = some c → (clsL c0 c1 c2 c3 c4 c5 c6 c7 c8 c9 c10 c11 c12 c13 c14 c15 c16 c17 c18 c19 c20)[j]? = some c' → PySem.W.kitOne K (.ref c) (.ref c') = some (decide (j = i)) := fun i j c c' hc hc' => range_at (range_at kt i hc) j hc'
  refine ⟨PySem.W.fnOf "law" "law" (defArgs sLaw) (defBody sLaw) (defScope sLaw) .none kV7 dc7 pm7 an7 cd7 ct7, fun s v => .of_eq rfl, fun base _ _ => ?_⟩
  have D : FnOk l.prog w K mg base CX0 1 f2 _ ["_law_stream_here", "_law_many"] spDraw := ok_draw (k := 0) F2 n1
  have S : FnOk l.prog w K mg base CX0 1 f1 _ ["_law_script"] (spStream K) := ok_stream (k := 0) F1 n1 n2
  have O : FnOk l.prog w K mg base CX0 2 f3 _ ["_law_stream_here"] spOdd := ok_odd (k := 1) F3 D F2 B2 g2
  have M : FnOk l.prog w K mg base CX0 2 f4 _ ["_law_value"] (spMade (clsL c0 c1 c2 c3 c4 c5 c6 c7 c8 c9 c10 c11 c12 c13 c14 c15 c16 c17 c18 c19 c20)) := ok_made (k := 0) F4 T
  have L : FnOk l.prog w K mg base CX0 1 f5 _ ["_law_error"] (spFlags (clsL c0 c1 c2 c3 c4 c5 c6 c7 c8 c9 c10 c11 c12 c13 c14 c15 c16 c17 c18 c19 c20)) := ok_flags (k := 0) F5 T n6 EV kit
  have E : FnOk l.prog w K mg base CX0 2 f6 _ ["_law_value"] spFields := ok_fields (k := 0) F6 T
  exact ok_law (k := 3) F7 ⟨S.mono (by decide), fk1, B1, g1⟩ ⟨O.mono (by decide), fk3, B3, g3⟩ ⟨M.mono (by decide), fk4, B4, g4⟩ ⟨L.mono (by decide), fk5, B5, g5⟩ ⟨E.mono (by decide), fk6, B6, g6⟩ rfl EV (PySem.W.mg_of X G aE) (fun i c hc => range_at kE i hc) (fun i c hc => range_at kV i hc) (fun i c hc => range_at kL i hc)
    (PySem.W.mg_of X G y1) (PySem.W.mg_of X G y2) (PySem.W.mg_of X G y3) (PySem.W.mg_of X G y4) (PySem.W.mg_of X G y5) (PySem.W.mg_of X G y6) (PySem.W.mg_of X G y7) (PySem.W.mg_of X G y8) n3 n4 n5 n6 n7 n8
end Lw
open PySem PySem.W PyProof.Rows
set_option maxHeartbeats 0 in
theorem PySem.Challenge.cw_leastplaces_k01_bounds_and_errors_holds : PySem.Challenge.rw_leastplaces_k01_bounds_and_errors.Holds := by
  w_on; o_law; k_head; (case hw => w_witness2)
  k_fill
  refine Gd.walk_G (l := PySem.Challenge.rw_leastplaces_k01_bounds_and_errors) (n := 63) (k := 4) (x := "_law_script") (sp := Lw.spLaw) rfl (by decide) rfl ⟨rfl, by decide, by decide⟩ (fun w h Y => PySem.W.kIn_of Y) ?F (fun _ _ a ns hl _ hS => ⟨a, ns, rfl, hS, hl, fun _ => rfl⟩)
  case F =>
    intro w mg fa h KX G hmg
    refine' Lw.all_mk KX G hmg ?fa1 ?fl1 ?fc1 ?fk1 ?fa2 ?fl2 ?fc2 ?fk2 ?fa3 ?fl3 ?fc3 ?fk3 ?fa4 ?fl4 ?fc4 ?fk4 ?fa5 ?fl5 ?fc5 ?fk5 ?fa6 ?fl6 ?fc6 ?fk6 ?fa7 ?fl7 ?fc7 ?fk7 ?z1 ?z2 ?z3 ?z4 ?z5 ?z6 ?z7 ?z8 ?y1 ?y2 ?y3 ?y4 ?y5 ?y6 ?y7 ?y8 ?aE ?a0 ?a1 ?a2 ?a3 ?a4 ?a5 ?a6 ?a7 ?a8 ?a9 ?a10 ?a11 ?a12 ?a13 ?a14 ?a15 ?a16 ?a17 ?a18 ?a19 ?a20 ?x1 ?h1 ?l1 ?x3 ?h3 ?l3 ?x4 ?h4 ?l4 ?x5 ?h5 ?l5 ?x6 ?h6 ?l6 ?x7 ?h7 ?l7 ?x9 ?h9 ?l9 ?x14 ?h14 ?l14 ?x15 ?h15 ?l15 ?x17 ?h17 ?l17 ?x18 ?h18 ?l18 ?x19 ?h19 ?l19 ?x20 ?h20 ?l20 ?b1 ?b2 ?b3 ?b4 ?b5 ?b6 ?b7 ?cg ?ctk ?kt ?kE ?kV ?kL ?d1 ?d2 ?d3 ?d4 ?d5 ?d6 ?d7 ?e1
    (case fa1 => first | k_is | kit_is | rfl); (case fl1 => first | k_is | kit_is | rfl); (case fc1 => first | k_is | kit_is | rfl); (case fk1 => first | k_is | kit_is | rfl); (case fa2 => first | k_is | kit_is | rfl); (case fl2 => first | k_is | kit_is | rfl); (case fc2 => first | k_is | kit_is | rfl); (case fk2 => first | k_is | kit_is | rfl); (case fa3 => first | k_is | kit_is | rfl); (case fl3 => first | k_is | kit_is | rfl); (case fc3 => first | k_is | kit_is | rfl); (case fk3 => first | k_is | kit_is | rfl); (case fa4 => first | k_is | kit_is | rfl); (case fl4 => first | k_is | kit_is | rfl); (case fc4 => first | k_is | kit_is | rfl); (case fk4 => first | k_is | kit_is | rfl); (case fa5 => first | k_is | kit_is | rfl); (case fl5 => first | k_is | kit_is | rfl); (case fc5 => first | k_is | kit_is | rfl); (case fk5 => first | k_is | kit_is | rfl); (case fa6 => first | k_is | kit_is | rfl); (case fl6 => first | k_is | kit_is | rfl); (case fc6 => first | k_is | kit_is | rfl); (case fk6 => first | k_is | kit_is | rfl); (case fa7 => first | k_is | kit_is | rfl); (case fl7 => first | k_is | kit_is | rfl); (case fc7 => first | k_is | kit_is | rfl); (case fk7 => first | k_is | kit_is | rfl); (case z1 => first | k_is | kit_is | rfl); (case z2 => first | k_is | kit_is | rfl); (case z3 => first | k_is | kit_is | rfl); (case z4 => first | k_is | kit_is | rfl); (case z5 => first | k_is | kit_is | rfl); (case z6 => first | k_is | kit_is | rfl); (case z7 => first | k_is | kit_is | rfl); (case z8 => first | k_is | kit_is | rfl); (case y1 => first | k_is | kit_is | rfl); (case y2 => first | k_is | kit_is | rfl); (case y3 => first | k_is | kit_is | rfl); (case y4 => first | k_is | kit_is | rfl); (case y5 => first | k_is | kit_is | rfl); (case y6 => first | k_is | kit_is | rfl); (case y7 => first | k_is | kit_is | rfl); (case y8 => first | k_is | kit_is | rfl); (case aE => first | k_is | kit_is | rfl); (case a0 => first | k_is | kit_is | rfl); (case a1 => first | k_is | kit_is | rfl); (case a2 => first | k_is | kit_is | rfl); (case a3 => first | k_is | kit_is | rfl); (case a4 => first | k_is | kit_is | rfl); (case a5 => first | k_is | kit_is | rfl); (case a6 => first | k_is | kit_is | rfl); (case a7 => first | k_is | kit_is | rfl); (case a8 => first | k_is | kit_is | rfl); (case a9 => first | k_is | kit_is | rfl); (case a10 => first | k_is | kit_is | rfl); (case a11 => first | k_is | kit_is | rfl); (case a12 => first | k_is | kit_is | rfl); (case a13 => first | k_is | kit_is | rfl); (case a14 => first | k_is | kit_is | rfl); (case a15 => first | k_is | kit_is | rfl); (case a16 => first | k_is | kit_is | rfl); (case a17 => first | k_is | kit_is | rfl); (case a18 => first | k_is | kit_is | rfl); (case a19 => first | k_is | kit_is | rfl); (case a20 => first | k_is | kit_is | rfl); (case x1 => first | k_is | kit_is | rfl); (case h1 => first | k_is | kit_is | rfl); (case l1 => first | k_is | kit_is | rfl); (case x3 => first | k_is | kit_is | rfl); (case h3 => first | k_is | kit_is | rfl); (case l3 => first | k_is | kit_is | rfl); (case x4 => first | k_is | kit_is | rfl); (case h4 => first | k_is | kit_is | rfl); (case l4 => first | k_is | kit_is | rfl); (case x5 => first | k_is | kit_is | rfl); (case h5 => first | k_is | kit_is | rfl); (case l5 => first | k_is | kit_is | rfl); (case x6 => first | k_is | kit_is | rfl); (case h6 => first | k_is | kit_is | rfl); (case l6 => first | k_is | kit_is | rfl); (case x7 => first | k_is | kit_is | rfl); (case h7 => first | k_is | kit_is | rfl); (case l7 => first | k_is | kit_is | rfl); (case x9 => first | k_is | kit_is | rfl); (case h9 => first | k_is | kit_is | rfl); (case l9 => first | k_is | kit_is | rfl); (case x14 => first | k_is | kit_is | rfl); (case h14 => first | k_is | kit_is | rfl); (case l14 => first | k_is | kit_is | rfl); (case x15 => first | k_is | kit_is | rfl); (case h15 => first | k_is | kit_is | rfl); (case l15 => first | k_is | kit_is | rfl); (case x17 => first | k_is | kit_is | rfl); (case h17 => first | k_is | kit_is | rfl); (case l17 => first | k_is | kit_is | rfl); (case x18 => first | k_is | kit_is | rfl); (case h18 => first | k_is | kit_is | rfl); (case l18 => first | k_is | kit_is | rfl); (case x19 => first | k_is | kit_is | rfl); (case h19 => first | k_is | kit_is | rfl); (case l19 => first | k_is | kit_is | rfl); (case x20 => first | k_is | kit_is | rfl); (case h20 => first | k_is | kit_is | rfl); (case l20 => first | k_is | kit_is | rfl); (case b1 => kernel_rfl); (case b2 => kernel_rfl); (case b3 => kernel_rfl); (case b4 => kernel_rfl); (case b5 => kernel_rfl); (case b6 => kernel_rfl); (case b7 => kernel_rfl); (case cg => first | k_is | kit_is | rfl); (case ctk => first | k_is | kit_is | rfl); (case kt => kernel_rfl); (case kE => kernel_rfl); (case kV => kernel_rfl); (case kL => kernel_rfl); (case d1 => kernel_rfl); (case d2 => kernel_rfl); (case d3 => kernel_rfl); (case d4 => kernel_rfl); (case d5 => kernel_rfl); (case d6 => kernel_rfl); (case d7 => kernel_rfl); (case e1 => kernel_rfl)
