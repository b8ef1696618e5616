import PyProof.Rows.All
import Wide.All
import OpenK.AllK
import Wide.FinOn
import PyProof.EqAt
import PyProof.EqKinds
import PyProof.TupleCall
import PyProof.ReprRoads
import HandS.ForMost
import HandS.IsInst
import HandS.Style
import HandS.TupAny
import HandS.TupMul
import HandS.SortInts
import KE.KRevSl
import KE.GoesMore
import KE.GoesEnum
import KE.KExcInit
import HandS.ForExc
import HandS.ExcIs
import HandS.CallLocal
import KE.KExcIs
import HandS.Conv
import KE.KEqSeq
import PySem.Challenge.RW_leastplaces_k03_least_places_of_windows
set_option Elab.async false
set_option linter.all false
set_option maxRecDepth 100000
set_option maxHeartbeats 4000000
/-! Defs that may ask repr: what runs around them holds no repr under way. -/
namespace Gd
open PySem PySem.Spec PyProof.Rows L2

theorem guards_deeper {A : Around} (env : Env) (h : A.guards = some []) : (A.deeper env).guards = some [] := by
  first | exact h | (simpa [Around.deeper] using h)

/-- as FnOk, asked only where no repr is under way -/
structure FnG (P : Program) (w : World) (K : PySem.W.Frag) (mg : Str → Option Value) (base : Heap) (CX : CXT) (k : Nat) (f : Addr) (fd : FuncData) (ps : List Str) (sp : Sp) : Prop where
  len : ∀ vs H Q E, sp vs H Q E → vs.length = ps.length
  run : ∀ (A : Around) (fr : List Env) (s : Shared) (H : Hp) (ar : Args) (us : List Value) (vs : List V) (Q : VK) (E : XK), Room k A → A.guards = some [] → Env0 P w K mg base A fr s H → BindsTo s fd ar (ps.zip us) →
    Vals vs us → sp vs H Q E → codeAny (model P w) A (.call (.ref f) ar) (CR CX fr P w H s Q E) s

section
variable {P : Program} {w : World} {K : PySem.W.Frag} {mg : Str → Option Value} {base : Heap}
theorem fnG_of {x qual : Str} {st : Stmt} {f : Addr} {fd : FuncData} {N ps : List Str} {k : Nat} {sp : Sp} (F : Fun K x qual st f fd) (S : FnScope N ps (defScope st)) (len : ∀ vs H Q E, sp vs H Q E → vs.length = ps.length)
    (body : ∀ (cdv : Value) (A : Around) (fr : List Env) (s : Shared) (H : Hp) (vs : List V) (Q : VK) (E : XK), Room k (A.deeper (envOfC qual (defScope st) s.heap.objs.size f cdv)) →
      (A.deeper (envOfC qual (defScope st) s.heap.objs.size f cdv)).guards = some [] → sp vs H Q E →
      ∃ t, PSs (cxOf CX0 P w K mg base N qual (defScope st) f cdv A fr s H E).nox (defBody st) t ∧ t { nx := fun _ H' => Q .non H', rt := Q } (start N vs) H) : FnG P w K mg base CX0 (k + 1) f fd ps sp := by
  obtain ⟨oc, od, kV, doc, pm, an, cdv, ct, osl, rfl, lk, hcd⟩ := F.ex
  refine ⟨len, ?_⟩
  intro A fr s H ar us vs Q E room gd env bd rel want
  have inK : K.In s.heap := env.mod.kin.keeps (fun b o z => (env.bs b o z).1)
  have nolim : s.heap.NoLimit := env.mod.nolimit.keeps (fun b o z => (env.bs b o z).1)
  refine codeAny_call_function room.depth (inK _ _ lk) rfl S.co S.gen rfl
    (PySem.W.codeRec_of inK hcd) (bd _ _ _ _ ?_)
  refine wpAny_newFunctionEnv_cells S.kind ?kinds ?rest
  case kinds =>
    rintro ⟨n, v⟩ hm
    have par := S.par n (List.of_mem_zip hm).1
    rcases par with z | z
    · exact Or.inl z
    · exact Or.inr (And.intro z (PySem.W.cellsFrom_some _ _ _ (.inl z)))
  case rest =>
    intro env1 e1 s1 inCall
    subst e1
    refine ⟨nolim.keeps inCall.toInCall.keep, codeAny_func ?_⟩
    obtain ⟨t, tree, reading⟩ := body cdv A fr s H vs Q E (room.deeper _) (guards_deeper _ gd) want
    have I0 : Inv (cxOf CX0 P w K mg base N qual (defScope st) f cdv A fr s H E) [] (start N vs) H s1 := inv_start S room.hd env (len _ _ _ _ want) rel inCall
    have ran := tree.nox.run [] s1 (start N vs) H _ I0 reading
    refine wpAny_mono ran ?good (fun _ _ z => z)
    case good =>
      intro flow s2 end2
      cases flow with
      | brk => obtain ⟨_, _, _, no⟩ := end2; exact no.elim
      | cont => obtain ⟨_, _, _, no⟩ := end2; exact no.elim
      | next =>
        obtain ⟨σ2, H2, I2, q2⟩ := end2
        exact (⟨.non, H2, I2.os, I2.bare, I2.base, I2.hok, rfl, q2⟩ : CE fr P w H s Q Value.none s2)
      | ret u =>
        obtain ⟨v, σ2, H2, I2, rv, q2⟩ := end2
        exact (⟨v, H2, I2.os, I2.bare, I2.base, I2.hok, rv, q2⟩ : CE fr P w H s Q u s2)

/-- the law's own call -/
theorem law_runG {mb : Str → Option Value} {CX : CXT} {k : Nat} {fa a : Addr} {fd : FuncData} {x : Str} {sp : Sp} {s₁ : Shared} {vs : List Value} {ns : List Int}
    (inK : K.In s₁.heap) (glob : s₁.heap.Ns mainGlobals mg) (blt : s₁.heap.Ns builtinsNs mb) (plain : ∀ y : Str, y ≠ "__name__" → mb y = bootBuiltins y) (nolim : s₁.heap.NoLimit) (nogen : s₁.gens = #[])
    (obj : s₁.heap.get? a = some { cls := .type "list", data := .seq vs.toArray }) (isInts : IntsAre vs ns) (short : ns.length ≤ sizeLine) (room : Room k callerA)
    (F : ∀ b : Heap, K.In b → b.Ns mainGlobals mg → FnG P w K mg b CX k fa fd [x] sp) (bd : ∀ (s : Shared) (u : Value), BindsTo s fd ⟨[u], []⟩ [(x, u)])
    (want : ∀ H : Hp, Only H → SqL K H a (ns.map V.int) → sp [.ref a] H (fun v _ => v = .bl true) fun _ _ _ => False)
    (noX : ∀ H e s', CX [] H s₁ (fun _ _ _ => False) e s' → False) :
    codeAny (model P w) callerA (.call (.ref fa) ⟨[.ref a], []⟩) (fun r s' => r = .ok (.ret (.bool true)) ∧ OldK s₁.heap s'.heap ∧ s'.os = s₁.os ∧ AllBare s'.gens) s₁ := by
  have rel : Vals (ns.map V.int) vs := vals_ints isInts
  have sizes : vs.length = ns.length := isInts.length
  -- the abstract heap: the script alone, unless the module's own part holds it
  obtain ⟨H, only, script, held, alone, apart⟩ : ∃ H : Hp, Only H ∧ SqL K H a (ns.map V.int) ∧ HOk P w H s₁.heap ∧ (∀ b, H b ≠ none → b = a) ∧ (∀ o, K.lookup a = some o → H a = none) := by
    cases own : K.lookup a with
    | some o =>
      have same := (inK a o own).symm.trans obj
      cases same
      refine ⟨fun _ => none, fun _ => Or.inl rfl, Or.inr ?_, ?_, fun b z => (z rfl).elim, fun _ _ => rfl⟩
      · exact ⟨_, vs.toArray, _, own, rfl, rfl, rfl, by rw [List.size_toArray, sizes]; exact short, by simpa using rel⟩
      · intro b u z
        cases z
    | none =>
      refine ⟨fun b => if b = a then some (.frz ⟨.type "list", none, .seq vs.toArray 0, #[]⟩ (.lst (ns.map V.int))) else none, ?_, ?_, ?_, ?_, fun o z => by cases z⟩
      · intro b
        by_cases e : b = a
        · exact Or.inr ⟨_, _, if_pos e⟩
        · exact Or.inl (if_neg e)
      · exact Or.inl (Or.inr ⟨_, if_pos rfl⟩)
      · intro b u z
        by_cases e : b = a
        · subst e
          dsimp only at z
          rw [if_pos rfl] at z
          cases z
          exact ⟨obj, by rw [List.length_map]; exact short, vs, _, rel, obj⟩
        · dsimp only at z
          rw [if_neg e] at z
          cases z
      · intro b z
        by_cases e : b = a
        · exact e
        · exact (z (if_neg e)).elim
  have free : ∀ {b : Addr} {o : Obj} {es : Array DictEntry} {n : Nat}, s₁.heap.get? b = some o → o.data = .dict es n → H b = none := by
    intro b o es n z d
    cases q : H b with
    | none => rfl
    | some u =>
      have e := alone b (by rw [q]; exact fun y => nomatch y)
      subst e
      rw [obj] at z
      cases z
      cases (show Data.seq vs.toArray 0 = Data.dict es n from d)
  have keepNs : ∀ {b : Addr} {m : Str → Option Value}, s₁.heap.Ns b m → (hidT s₁.heap H).Ns b m := by
    rintro b m ⟨o, es, n, z, d, r⟩
    exact ⟨o, es, n, hidT_get z (free z d), d, r⟩
  have keepK : K.In (hidT s₁.heap H) := by
    intro b o z
    refine hidT_get (inK b o z) ?_
    cases q : H b with
    | none => rfl
    | some u =>
      have e := alone b (by rw [q]; exact fun y => nomatch y)
      subst e
      rw [apart o z] at q
      cases q
  have mod : Mod K mg (hidT s₁.heap H) := by
    obtain ⟨mc, c1, c2⟩ := nolim
    exact ⟨keepK, keepNs glob, ⟨mb, keepNs blt, plain⟩, ⟨mc, keepNs c1, c2⟩⟩
  have env : Env0 P w K mg (hidT s₁.heap H) callerA [] s₁ H := by
    refine ⟨rfl, mod, fun b o z => of_hidT z, ?_, trivial, ?_, held, .of_eq nogen⟩
    · rw [hidT_size]
      exact Nat.le_refl _
    · intro b z
      exact nomatch (show b ∈ ([] : List Addr) from z)
  have ran := (F _ keepK (keepNs glob)).run callerA [] s₁ H ⟨[.ref a], []⟩ [.ref a] [.ref a] _ _ room rfl env (bd s₁ (.ref a)) (.cons rfl .nil) (want H only script)
  refine codeAny_mono ran ?_
  intro r s2 end2
  cases r with
  | error e => exact (noX H e s2 end2).elim
  | ok fl =>
    cases fl with
    | next => exact False.elim end2
    | brk => exact False.elim end2
    | cont => exact False.elim end2
    | ret u =>
      obtain ⟨v, H2, os2, bare2, un2, ok2, rv, yes⟩ := end2
      have yes' : v = .bl true := yes
      subst yes'
      have eu : u = Value.bool true := rv
      subst eu
      refine ⟨rfl, OldK.of_keep ?_, os2, bare2⟩
      intro b o z
      rcases only b with no | ⟨ob, xs, fz⟩
      · refine un2.keep b o z no ?_ ?_
        · intro y
          exact nomatch (show b ∈ ([] : List Addr) from y)
        · intro y
          exact nomatch y
      · have was := (held b _ fz).1
        have now := (ok2 b _ (un2.frzs b ob _ fz)).1
        rw [z] at was
        cases was
        exact now

theorem walk_G {l : PySem.W.OpenLaw} {n k : Nat} {q : Program} {loose : List Str} {XP : (Str → Option Value) → Heap → Prop} {YP : World → Heap → Prop} {d : DefRec} {K : Params → PySem.W.Frag} {sp : PySem.W.Frag → Sp} {x : Str}
    (hn : l.most = some n) (fits : n ≤ sizeLine) (nodf : d.params.defaults = []) (room : Room k callerA) (hY : ∀ (w : World) (h : Heap), YP w h → (K w.params).In h)
    (F : ∀ (w : World) (mg : Str → Option Value) (fa : Addr) (h : Heap), (K w.params).In h → h.Ns mainGlobals mg → mg d.name = some (.ref fa) → ∃ fd : FuncData, (∀ (s : Shared) (u : Value), BindsTo s fd ⟨[u], []⟩ [(x, u)]) ∧
      ∀ b : Heap, (K w.params).In b → b.Ns mainGlobals mg → FnG l.prog w (K w.params) mg b CX0 k fa fd [x] (sp (K w.params)))
    (want : ∀ (K : PySem.W.Frag) (H : Hp) (a : Addr) (ns : List Int), ns.length ≤ n → Only H → SqL K H a (ns.map V.int) → sp K [.ref a] H (fun v _ => v = .bl true) fun _ _ _ => False) :
    PySem.W.WalkO q loose XP YP l.row.toRowW d [] (fun f vs => PySem.call f vs) := by
  apply Att.attach_call hn nodf
  intro w s₀ s₁ mg mb fa o pm cd doc a vs ns G Y ho hd hcd hmg obj isInts hlen nogen
  obtain ⟨fd, bd, hF⟩ := F w mg fa _ (hY w _ Y) G.T.g hmg
  exact law_runG (hY w _ Y) G.T.g G.T.b G.T.builtins G.T.nolimit nogen obj isInts (Nat.le_trans hlen fits) room hF bd (fun H h1 h2 => want _ H a ns hlen h1 h2) (fun _ _ _ z => z)
end
end Gd
/-! Data at any depth, dicts of plain values among them, and what repr says of it. -/
namespace Gd
open PySem PySem.Spec PyProof.Rows L2

/-- a plain value as data -/
def vD : V → PyData
  | .non => .none
  | .bl b => .bool b
  | .int i => .int i
  | .str x => .str x
  | _ => .none
def kD : Key → PyData
  | .inl i => .int i
  | .inr x => .str x
def plainV : V → Bool
  | .non => true
  | .bl _ => true
  | .int _ => true
  | .str _ => true
  | _ => false

/-- the value v is the data d, and none of its objects is one of av -/
inductive Dv (av : Addr → Prop) (H : Hp) : V → PyData → Prop
  | non : Dv av H .non .none
  | bl (b : Bool) : Dv av H (.bl b) (.bool b)
  | int (i : Int) : Dv av H (.int i) (.int i)
  | str (x : Str) : Dv av H (.str x) (.str x)
  | lst {a : Addr} {xs : List V} {ds : List PyData} : H a = some (.lst xs) → ¬ av a → xs.length = ds.length → (∀ (i : Nat) (x : V) (d : PyData), xs[i]? = some x → ds[i]? = some d → Dv av H x d) → Dv av H (.ref a) (.list ds)
  | tup {a : Addr} {xs : List V} {ds : List PyData} : H a = some (.tup xs) → ¬ av a → xs.length = ds.length → (∀ (i : Nat) (x : V) (d : PyData), xs[i]? = some x → ds[i]? = some d → Dv av H x d) → Dv av H (.ref a) (.tuple ds)
  | dct {a : Addr} {kvs : List (Key × V)} : H a = some (.dK kvs) → ¬ av a → (∀ p ∈ kvs, plainV p.2 = true) → Dv av H (.ref a) (.dict (kvs.map fun p => (kD p.1, vD p.2)))

/-- all but the objects of av stays -/
def Kp (av : Addr → Prop) (H H' : Hp) : Prop := ∀ b o, H b = some o → ¬ av b → H' b = some o
theorem Kp.refl {av : Addr → Prop} (H : Hp) : Kp av H H := fun _ _ h _ => h
theorem Kp.trans {av : Addr → Prop} {H H1 H2 : Hp} (a : Kp av H H1) (b : Kp av H1 H2) : Kp av H H2 := fun c o h n => b c o (a c o h n) n
theorem Kp.of_same {av : Addr → Prop} {H H1 : Hp} (a : Same H H1) : Kp av H H1 := fun c o h _ => a c o h
theorem Dv.keep {av : Addr → Prop} {H H' : Hp} (k : Kp av H H') {v : V} {d : PyData} (h : Dv av H v d) : Dv av H' v d := by
  induction h with
  | non => exact .non
  | bl b => exact .bl b
  | int i => exact .int i
  | str x => exact .str x
  | lst e n l _ ih => exact .lst (k _ _ e n) n l ih
  | tup e n l _ ih => exact .tup (k _ _ e n) n l ih
  | dct e n p => exact .dct (k _ _ e n) n p

section
variable {prog : Program} {w : World} {h : Heap}
def Rk (prog : Program) (w : World) (h : Heap) (u : Value) (d : PyData) : Prop := (∃ as, Reads h u d as) ∧ ∃ bs, ReadAtMost h d.depth bs ∧ ReprK prog w bs h d.depth u d.shown
def RkAll (prog : Program) (w : World) (h : Heap) (us : List Value) (ds : List PyData) : Prop :=
  (∃ as, ReadsAll h us ds as) ∧ ∃ bs, ReadAtMost h (PyData.depthAll ds) bs ∧ ReprAllK prog w bs h (PyData.depthAll ds) us (PyData.shownAll ds)
theorem rk_nil : RkAll prog w h [] [] := ⟨⟨_, .nil⟩, [], (fun _ z => nomatch z), by rw [PyData.shownAll]; exact .nil⟩
theorem rk_cons {u : Value} {d : PyData} {us : List Value} {ds : List PyData} (a : Rk prog w h u d) (b : RkAll prog w h us ds) : RkAll prog w h (u :: us) (d :: ds) := by
  obtain ⟨⟨as, r⟩, b1, m1, k1⟩ := a
  obtain ⟨⟨cs, rs⟩, b2, m2, k2⟩ := b
  refine ⟨⟨_, .cons r rs⟩, b1 ++ b2, ?_, ?_⟩
  · rw [PyData.depthAll]
    exact (m1.mono (Nat.le_max_left _ _)).append (m2.mono (Nat.le_max_right _ _))
  · rw [PyData.depthAll, PyData.shownAll]
    refine .cons ((k1.more ?_).level_le (Nat.le_max_left _ _)) (k2.more_le ?_ (Nat.le_max_right _ _))
    · exact fun c z => List.mem_append_left _ z
    · exact fun c z => List.mem_append_right _ z
theorem rk_list {a : Addr} {o : Obj} {vs : List Value} {n : Nat} {ds : List PyData} (e : h.get? a = some o) (c : o.cls = .type "list") (dt : o.data = .seq vs.toArray n) (all : RkAll prog w h vs ds) : Rk prog w h (.ref a) (.list ds) := by
  obtain ⟨⟨as, rs⟩, bs, m, k⟩ := all
  have r : Reads h (.ref a) (.list ds) (a :: as) := .list e c dt rs
  have deep : PyData.depth (.list ds) = PyData.depthAll ds + 1 := by rw [PyData.depth]
  refine ⟨⟨_, r⟩, a :: bs, ReadAtMost.cons r (by omega) m, ?_⟩
  rw [deep, PyData.shown]
  cases vs with
  | nil =>
    cases rs
    rw [PyData.shownAll, listText_nil]
    exact ReprK.listEmpty e c dt
  | cons x l => exact ReprK.list e c dt (not_mem_of_deeper r (by omega) m) (by simpa using k.length_eq) (fun i y z => k.item i y (by simpa using z))
theorem rk_tuple {a : Addr} {o : Obj} {vs : List Value} {n : Nat} {ds : List PyData} (e : h.get? a = some o) (c : o.cls = .type "tuple") (dt : o.data = .seq vs.toArray n) (all : RkAll prog w h vs ds) : Rk prog w h (.ref a) (.tuple ds) := by
  obtain ⟨⟨as, rs⟩, bs, m, k⟩ := all
  have r : Reads h (.ref a) (.tuple ds) as := .tuple e c dt rs
  have deep : PyData.depth (.tuple ds) = PyData.depthAll ds + 1 := by rw [PyData.depth]
  refine ⟨⟨_, r⟩, a :: bs, ReadAtMost.cons r (by omega) m, ?_⟩
  rw [deep, PyData.shown]
  exact ReprK.tuple e c dt (not_mem_of_deeper r (by omega) m) k
theorem rk_plain {v : V} {u : Value} (p : plainV v = true) (r : RelV v u) : Reads h u (vD v) [] := by
  cases v with
  | non => cases r; exact .none
  | bl b => cases r; exact .bool b
  | int i => obtain ⟨t, rfl⟩ := r; exact .int i t
  | str x => obtain ⟨t, rfl⟩ := r; exact .str x t
  | byt b => cases p
  | flt b => cases p
  | ref a => cases p
  | ty n => cases p
theorem rk_dict {a : Addr} {kvs : List (Key × V)} (ok : ObjOk prog w H h a (.dK kvs)) (pl : ∀ p ∈ kvs, plainV p.2 = true) (sh : (PyData.dict (kvs.map fun p => (kD p.1, vD p.2))).showable = true)
    (sz : (PyData.dict (kvs.map fun p => (kD p.1, vD p.2))).shown.length ≤ sizeLine) : Rk prog w h (.ref a) (.dict (kvs.map fun p => (kD p.1, vD p.2))) := by
  obtain ⟨_, hm, vs, rel, o, es, ep, e, ex, dt, _, prs, _⟩ := ok
  have ks : ∀ (kvs : List (Key × V)) (vs : List (Key × Value)) (l : List DictEntry), (∀ p ∈ kvs, plainV p.2 = true) → KV kvs vs → Pairs (mixKind prog w) l vs →
      ReadsAll h (l.map (·.key)) ((kvs.map fun p => (kD p.1, vD p.2)).map (·.1)) [] ∧ ReadsAll h (l.map (·.val)) ((kvs.map fun p => (kD p.1, vD p.2)).map (·.2)) [] := by
    intro kvs
    induction kvs with
    | nil =>
      intro vs l _ q p
      cases q
      cases p
      exact ⟨.nil, .nil⟩
    | cons kv kvs ih =>
      intro vs l pl q p
      cases q with
      | cons q1 q2 =>
        cases p with
        | cons p1 p2 p3 =>
          obtain ⟨i1, i2⟩ := ih _ _ (fun p z => pl p (List.mem_cons_of_mem _ z)) q2 p3
          obtain ⟨q1a, q1b⟩ := q1
          refine ⟨?_, ?_⟩
          · refine ReadsAll.cons (as := []) (bs := []) ?_ i1
            rw [← q1a] at p1
            obtain ⟨k1, v1⟩ := kv
            rcases keyIs_shape p1 with ⟨i, t, ek, ev⟩ | ⟨x, t, ek, ev⟩
            · dsimp only at ek
              subst ek
              dsimp only
              rw [ev]
              exact .int i t
            · dsimp only at ek
              subst ek
              dsimp only
              rw [ev]
              exact .str x t
          · refine ReadsAll.cons (as := []) (bs := []) ?_ i2
            dsimp only
            rw [p2]
            exact rk_plain (pl kv List.mem_cons_self) q1b
  obtain ⟨r1, r2⟩ := ks kvs vs es.toList pl rel prs
  have r : Reads h (.ref a) (.dict (kvs.map fun p => (kD p.1, vD p.2))) (a :: [] ++ []) := .dict e ex.1 dt r1 r2
  refine ⟨⟨_, r⟩, ReprK.of_reads r sh (fun _ z => ?_) sz⟩
  rcases List.mem_cons.mp z with q | q
  · rw [← q] at hm
    exact Bool.noConfusion ((beq_self_eq_true sysModules).symm.trans hm)
  · exact nomatch q
end

theorem shownAll_mem : ∀ {ds : List PyData} {d : PyData}, d ∈ ds → d.shown ∈ PyData.shownAll ds
  | [], _, h => nomatch h
  | x :: r, d, h => by
    rw [PyData.shownAll]
    rcases List.mem_cons.mp h with rfl | h
    · exact List.mem_cons_self
    · exact List.mem_cons_of_mem _ (shownAll_mem h)
theorem showableAll_mem : ∀ {ds : List PyData} {d : PyData}, PyData.showableAll ds = true → d ∈ ds → d.showable = true
  | [], _, _, h => nomatch h
  | x :: r, d, s, h => by
    rw [PyData.showableAll, Bool.and_eq_true] at s
    rcases List.mem_cons.mp h with rfl | h
    · exact s.1
    · exact showableAll_mem s.2 h

section
variable {X : Cx} {pins : List (Addr × Obj)} {σ : L2.St} {H : Hp} {s : Shared} {av : Addr → Prop}
theorem rk_all {xs : List V} {ds : List PyData} (ih : ∀ (i : Nat) (x : V) (d : PyData), xs[i]? = some x → ds[i]? = some d → ∀ u, RelV x u → Rk X.prog X.w s.heap u d) (l : xs.length = ds.length) {us : List Value} (r : Vals xs us) : RkAll X.prog X.w s.heap us ds := by
  induction r generalizing ds with
  | nil =>
    cases ds with
    | nil => exact rk_nil
    | cons d ds => cases l
  | cons r1 r2 ih2 =>
    cases ds with
    | nil => cases l
    | cons d ds => exact rk_cons (ih 0 _ _ rfl rfl _ r1) (ih2 (fun i x e h1 h2 => ih (i + 1) x e h1 h2) (Nat.succ.inj l))
theorem Dv.rk (I : Inv X pins σ H s) {v : V} {d : PyData} (h : Dv av H v d) : d.showable = true → d.shown.length ≤ sizeLine → ∀ u, RelV v u → Rk X.prog X.w s.heap u d := by
  have flat : ∀ {u : Value} {d : PyData}, Reads s.heap u d [] → d.hasDict = false → d.showable = true → d.shown.length ≤ sizeLine → Rk X.prog X.w s.heap u d := fun r n sh sz => ⟨⟨_, r⟩, ReprK.of_reads r sh (fun z => by rw [n] at z; cases z) sz⟩
  induction h with
  | non => intro sh sz u r; cases r; exact flat .none rfl sh sz
  | bl b => intro sh sz u r; cases r; exact flat (.bool b) rfl sh sz
  | int i => intro sh sz u r; obtain ⟨t, rfl⟩ := r; exact flat (.int i t) rfl sh sz
  | str x => intro sh sz u r; obtain ⟨t, rfl⟩ := r; exact flat (.str x t) rfl sh sz
  | lst e n l _ ih =>
    intro sh sz u r
    cases r
    obtain ⟨_, its, m, rv, ho⟩ := I.hok _ _ e
    rw [PyData.shown] at sz
    rw [PyData.showable] at sh
    refine rk_list ho rfl rfl (rk_all (fun i x d h1 h2 u q => ?_) l rv)
    exact ih i x d h1 h2 (showableAll_mem sh (List.mem_of_getElem? h2)) (Nat.le_trans (listText_mem_le (shownAll_mem (List.mem_of_getElem? h2))) sz) u q
  | tup e n l _ ih =>
    intro sh sz u r
    cases r
    obtain ⟨_, its, rv, o, ho, hc, m, hd⟩ := I.hok _ _ e
    rw [PyData.shown] at sz
    rw [PyData.showable] at sh
    refine rk_tuple ho hc hd (rk_all (fun i x d h1 h2 u q => ?_) l rv)
    exact ih i x d h1 h2 (showableAll_mem sh (List.mem_of_getElem? h2)) (Nat.le_trans (tupleText_mem_le (shownAll_mem (List.mem_of_getElem? h2))) sz) u q
  | dct e n p =>
    intro sh sz u r
    cases r
    exact rk_dict (I.hok _ _ e) p sh sz

/-- repr(x), x any data: its text -/
def rRepr (av : Addr → Prop) : List V → Hp → VK → Prop := fun xs H Q => ∃ x d, xs = [x] ∧ Dv av H x d ∧ d.showable = true ∧ d.shown.length ≤ sizeLine ∧ d.depth ≤ 60 ∧ Q (.str d.shown) H
theorem call_repr (hg : X.A.guards = some []) (hu : X.A.units + 64 < cLine) : CallR X (.builtin "repr") (rRepr av) := by
  intro pins s σ H xs us Q I r want
  obtain ⟨x, d, rfl, dv, sh, sz, dp, q⟩ := want
  obtain ⟨u, rfl, ru⟩ := vals1 r
  have ends : ∀ h' t tk, (∀ b o, s.heap.get? b = some o → h'.get? b = some o) → EP X pins σ Q (.str d.shown t) { s with heap := h', toks := tk } := fun h' t tk k => ⟨.str d.shown, H, I.kept k, ⟨t, rfl⟩, q⟩
  have all := dv.rk I sh sz u ru
  have g1 : X.A.in1.guards = some [] := hg
  have u1 : X.A.in1.units + 63 < cLine := by show X.A.units + 1 + 63 < cLine; omega
  cases dv with
  | non => cases ru; exact PySem.P.repr_of_none (ends s.heap _ _ fun _ _ e => e)
  | bl b =>
    cases ru
    refine PySem.P.repr_of_bool ?_
    have z := ends s.heap s.toks (s.toks + 1) fun _ _ e => e
    rw [PyData.shown] at z
    exact z
  | int i =>
    obtain ⟨t, rfl⟩ := ru
    refine PySem.P.repr_of_int (by simpa [PyData.showable] using sh) ?_
    have z := ends s.heap s.toks (s.toks + 1) fun _ _ e => e
    rw [PyData.shown] at z
    exact z
  | str y =>
    obtain ⟨t, rfl⟩ := ru
    refine PySem.P.repr_of_str ?_ (by simpa only [PyData.shown] using sz)
    have z := ends s.heap s.toks (s.toks + 1) fun _ _ e => e
    rw [PyData.shown] at z
    exact z
  | @lst a ys ds e n l f =>
    cases ru
    obtain ⟨_, its, m, rv, ho⟩ := I.hok _ _ e
    have sh' := sh
    have sz' := sz
    rw [PyData.showable] at sh'
    rw [PyData.shown] at sz'
    have parts : RkAll X.prog X.w s.heap its ds := rk_all (fun i x d h1 h2 u q => (f i x d h1 h2).rk I (showableAll_mem sh' (List.mem_of_getElem? h2)) (Nat.le_trans (listText_mem_le (shownAll_mem (List.mem_of_getElem? h2))) sz') u q) l rv
    obtain ⟨⟨as, rs⟩, bs, mb, k⟩ := parts
    have rd : Reads s.heap (.ref a) (.list ds) (a :: as) := .list ho rfl rfl rs
    have deep : PyData.depth (.list ds) = PyData.depthAll ds + 1 := by rw [PyData.depth]
    refine call_repr_slot (by omega) ⟨_, ho, rfl⟩ PySem.F.slot_list_repr.toG ?_
    rw [PyData.shown] at ends
    cases its with
    | nil =>
      cases rs
      rw [PyData.shownAll, listText_nil] at ends
      exact call_list_repr_empty ⟨_, ho, rfl⟩ ho rfl ⟨_, _, rfl, ends s.heap _ _ fun _ _ e => e⟩
    | cons y its =>
      exact call_list_reprK ho rfl rfl (not_mem_of_deeper rd (by omega) mb) (by simpa using k.length_eq) (fun i y z => k.item i y (by simpa using z)) g1 (fun b _ => Clear.nil b) (by omega) (fun _ _ e => e) (fun h' t tk kk => ⟨_, _, rfl, ends h' t tk kk⟩) sz'
  | @tup a ys ds e n l f =>
    cases ru
    obtain ⟨_, its, rv, o, ho, hc, m, hd⟩ := I.hok _ _ e
    have sh' := sh
    have sz' := sz
    rw [PyData.showable] at sh'
    rw [PyData.shown] at sz'
    have parts : RkAll X.prog X.w s.heap its ds := rk_all (fun i x d h1 h2 u q => (f i x d h1 h2).rk I (showableAll_mem sh' (List.mem_of_getElem? h2)) (Nat.le_trans (tupleText_mem_le (shownAll_mem (List.mem_of_getElem? h2))) sz') u q) l rv
    obtain ⟨⟨as, rs⟩, bs, mb, k⟩ := parts
    have rd : Reads s.heap (.ref a) (.tuple ds) as := .tuple ho hc hd rs
    have deep : PyData.depth (.tuple ds) = PyData.depthAll ds + 1 := by rw [PyData.depth]
    refine call_repr_slot (by omega) ⟨_, ho, hc⟩ PySem.F.slot_tuple_repr ?_
    rw [PyData.shown] at ends
    exact call_tuple_reprK ho hc hd (not_mem_of_deeper rd (by omega) mb) k g1 (fun b _ => Clear.nil b) (by omega) (fun _ _ e => e) (fun h' t tk kk => ⟨_, _, rfl, ends h' t tk kk⟩) sz'
  | @dct a kvs e n p =>
    cases ru
    obtain ⟨⟨as, rd⟩, _⟩ := all
    obtain ⟨_, hm, vs, rel, o, es, ep, e1, ex, dt, _, prs, _⟩ := (show ObjOk X.prog X.w H s.heap a (.dK kvs) from I.hok _ _ e)
    have deep : (PyData.dict (kvs.map fun p => (kD p.1, vD p.2))).depth ≤ 60 := dp
    have nos : sysModules ∉ as := by
      cases rd with
      | dict h1 h2 h3 h4 h5 =>
        have flatAll : ∀ {us : List Value} {ds : List PyData} {cs : List Addr}, ReadsAll s.heap us ds cs → (∀ d ∈ ds, d.depth = 0) → cs = [] := by
          intro us
          induction us with
          | nil => intro ds cs q _; cases q; rfl
          | cons u us ih =>
            intro ds cs q z
            cases q with
            | cons q1 q2 =>
              have z1 := z _ List.mem_cons_self
              have z2 := ih q2 fun d m => z d (List.mem_cons_of_mem _ m)
              subst z2
              cases q1 with
              | list => rw [PyData.depth] at z1; omega
              | tuple => rw [PyData.depth] at z1; omega
              | dict => rw [PyData.depth] at z1; omega
              | _ => rfl
        have k1 := flatAll h4 (fun d m => by
          obtain ⟨q, hq, rfl⟩ := List.mem_map.mp m
          obtain ⟨r, hr, rfl⟩ := List.mem_map.mp hq
          obtain ⟨kk, vv⟩ := r
          cases kk <;> simp only [kD, PyData.depth])
        have k2 := flatAll h5 (fun d m => by
          obtain ⟨q, hq, rfl⟩ := List.mem_map.mp m
          obtain ⟨r, hr, rfl⟩ := List.mem_map.mp hq
          obtain ⟨kk, vv⟩ := r
          cases vv <;> simp only [vD, PyData.depth])
        subst k1 k2
        intro z
        rcases List.mem_cons.mp z with q | q
        · rw [← q] at hm
          exact Bool.noConfusion ((beq_self_eq_true sysModules).symm.trans hm)
        · exact nomatch q
    exact repr_of_reads' rd sh (fun _ => nos) hg (by omega) (fun _ _ e => e) (fun h' t tk kk => ends h' t tk kk) sz
end
end Gd
/-! xs[::k] of a list, k one of 1 and -1 and not written; t[::-1] of a tuple; t == () -/
namespace Gd
open PySem PySem.Spec PyProof.Rows L2
theorem pick_all (its : Array Value) : slicePick its none none (some 1) = its := by
  have hb : sliceBounds none none (some 1) its.size = (0, (its.size : Int), 1) := by simp [sliceBounds]
  have hr : sliceRange 0 (its.size : Int) 1 = List.range its.size := by
    unfold sliceRange
    by_cases h : (0 : Int) < its.size
    · have e : ((its.size : Int) - 0 + 1 - 1) / 1 = its.size := by rw [Int.ediv_one]; omega
      simp only [show (1 : Int) > 0 by decide, if_true, h, e, Int.toNat_natCast]
      refine (List.map_congr_left (g := id) fun k _ => ?_).trans (List.map_id _)
      show (0 + 1 * (k : Int)).toNat = k
      omega
    · have e : its.size = 0 := by omega
      rw [e]
      simp
  unfold slicePick
  rw [hb]
  dsimp only
  rw [hr, PySem.W.krv_all]
section
variable {X : Cx}
/-- what xs[::k] asks -/
def tStep (K : PySem.W.Frag) (te ts : TE) : TE := fun σ H Q => te σ H fun x H1 => ts σ H1 fun y H2 => ∃ a xs k, x = .ref a ∧ SqL K H2 a xs ∧ y = .int k ∧ (k = 1 ∨ k = -1) ∧ ∀ zs p, (zs = xs ∨ zs = xs.reverse) → H2 p = none → Q (.ref p) (upd H2 p (.lst zs))
theorem pe_step {e st : Expr} {te ts : TE} {p3 pos : Pos} (he : PE X e te) (hst : PE X st ts)
    (hops : ∀ o i : Value, subscripted (.Slice none none (some st) p3) false o i = operate [o, i] (getItem o i) := by intro _ _; rfl) :
    PE X (.Subscript e (.Slice none none (some st) p3) pos) (tStep X.K te ts) := by
  refine ⟨fun pins s σ H Q I want => ?_⟩
  refine Subscript_ (thn (he.run pins s σ H _ I want) ?_)
  rintro v s1 ⟨x, H1, I1, r1, want1⟩
  refine wpAny_Slice (thn (po_none.run pins s1 σ H1 (fun o G => o = none ∧ G = H1) I1 ⟨rfl, rfl⟩) ?_)
  rintro vl s2 ⟨l, G2, I2, pl, rfl, rfl⟩
  refine thn (po_none.run pins s2 σ G2 (fun o G => o = none ∧ G = G2) I2 ⟨rfl, rfl⟩) ?_
  rintro vu s3 ⟨u, G3, I3, pu, rfl, rfl⟩
  rw [evalPart_some]
  refine thn (hst.run pins s3 σ G3 _ I3 want1) ?_
  rintro vs s4 ⟨y, H4, I4, ry, a, xs, k, rfl, hx, rfl, hk, want2⟩
  cases r1
  have ps : IsPart vs (some k) := by
    obtain ⟨t, rfl⟩ := ry
    exact IsPart.int _ _
  have I5 : Inv X pins σ H4 { s4 with heap := s4.heap.push { cls := .type "slice", data := .fields #[vl, vu, vs] } } := I4.kept (t' := s4.toks) fun b ob z => Heap.get?_push_of_some _ z
  obtain ⟨its, r, ht, hz⟩ := I5.list hx
  have hlen := r.length
  refine tail_any (ops := [.ref a, .ref s4.heap.objs.size]) ht.isList.typeIs (PySem.slot_list_getitem.lookup) ?_ (hops _ _)
  refine wpAny_getItem_list_slice ht.isList (Heap.IsSliceOf.new _ vl vu vs) pl pu ps (by rcases hk with rfl | rfl <;> decide) ?_ (by rw [List.size_toArray]; omega)
  rcases hk with rfl | rfl
  · rw [pick_all]
    refine ⟨.ref _, _, I5.laid (t' := s4.toks) (o := .lst xs) (fun b ob z => Heap.get?_push_of_some _ z) (Nat.le_refl _) ?_, rfl, want2 _ _ (.inl rfl) (I5.hok.fresh (Nat.le_refl _))⟩
    exact ⟨hz, _, 0, r, Heap.get?_push_size _ rfl⟩
  · rw [PySem.W.krv_pick]
    refine ⟨.ref _, _, I5.laid (t' := s4.toks) (o := .lst xs.reverse) (fun b ob z => Heap.get?_push_of_some _ z) (Nat.le_refl _) ?_, rfl, want2 _ _ (.inr rfl) (I5.hok.fresh (Nat.le_refl _))⟩
    exact ⟨by rw [List.length_reverse]; exact hz, _, 0, r.reverse, Heap.get?_push_size _ rfl⟩
end
end Gd
/-! enumerate(t), t a tuple; t == (), t any tuple -/
namespace Gd
open PySem PySem.Spec PyProof.Rows L2
theorem meets_enum1 {v : Value} {o : Obj} {Hh : Heap → Prop} (B : Begins v o Hh) : Meets (Builtin.«enumerate.__new__» ⟨[.type "enumerate", v], []⟩) (fun _ R s => Hh s.heap ∧
    R (.ok (.ret (.ref (s.heap.push o).objs.size))) { s with heap := (s.heap.push o).push { cls := .type "enumerate", data := .fields #[.none, .bool false, .ref s.heap.objs.size, rawInt 0, .none, .none] } }) :=
  .of_wp fun prog w A R s z => by
    obtain ⟨hp, g, d, tk, os⟩ := s
    obtain ⟨z1, z2⟩ := z
    have hsub := sub_enumerate
    have go : ∀ {A' : Around} {E : Value → Shared → Prop} {Q : Value → Shared → Prop}, Q (.ref hp.objs.size) ⟨hp.push o, g, d, tk, os⟩ → wpAny (model prog w) A' (pyIter v) Q E ⟨hp, g, d, tk, os⟩ := by
      intro A' E Q q
      exact B.iter prog w A' E _ Q z1 q
    wp_walk using go
    refine wpAny_stack_any fun st => wpAny_pure ?_
    split
    · rename_i c _ _ _ _ _
      cases (c == Value.type "enumerate") <;> (wp_walk using go; exact ⟨_, rfl, z2⟩)
    · wp_walk using go
      exact ⟨_, rfl, z2⟩
section
variable {prog : Program} {w : World} {A : Around} {E : Value → Shared → Prop} {s : Shared}
theorem enum1_begins {v : Value} {o : Obj} {Hh : Heap → Prop} {Q : Value → Shared → Prop} (B : Begins v o Hh) (z : Hh s.heap)
    (q : ∀ h', IsEnum h' (s.heap.objs.size + 1) s.heap.objs.size 0 .none → h'.get? s.heap.objs.size = some o → (∀ b o, s.heap.get? b = some o → h'.get? b = some o) → Q (.ref (s.heap.objs.size + 1)) { s with heap := h' }) :
    wpAny (model prog w) A (call (.type "enumerate") [v]) Q E s := by
  refine callType_new F.called_enumerate (by decide) (F.typeCall_enumerate_1 _) (F.newCall_enumerate_1 _) (fun obj => F.args_object_init_2 obj _) F.entry_enumerate_new (meets_enum1 B) ⟨z, ?_⟩
  have size1 : (s.heap.push o).objs.size = s.heap.objs.size + 1 := Heap.size_push ..
  show _ ∧ _
  rw [size1]
  have isE : IsEnum ((s.heap.push o).push { cls := .type "enumerate", data := .fields #[.none, .bool false, .ref s.heap.objs.size, rawInt 0, .none, .none] }) (s.heap.objs.size + 1) s.heap.objs.size 0 .none := by
    have y := Heap.get?_push_size (s.heap.push o) (o := { cls := .type "enumerate", data := .fields #[.none, .bool false, .ref s.heap.objs.size, rawInt 0, .none, .none] }) rfl
    rw [size1] at y
    exact y
  exact ⟨⟨_, isE, rfl⟩, q _ isE (Heap.get?_push_of_some _ (Heap.get?_push_size _ B.free)) fun b o x => Heap.get?_push_of_some _ (Heap.get?_push_of_some _ x)⟩
end
/-- the tuple at a, each item in a new pair with its place -/
def ItT (K : PySem.W.Frag) (a : Addr) : It :=
  ⟨fun i H => ∃ (xs : List V) (x : V), SqT K H a xs ∧ xs[i]? = some x, fun i H v H' => ∃ T x, v = .ref T ∧ H T = none ∧ H' = upd H T (.tup [.int (i : Nat), x]) ∧ ∀ xs, SqT K H a xs → xs[i]? = some x, fun i H => ∃ xs : List V, SqT K H a xs ∧ xs.length = i⟩
theorem turn_T {P : Program} {w : World} {K : PySem.W.Frag} {elts : List Expr} {kk : Nat} {tpos : Pos} (t e it : Addr) (hti : t ≠ it) (hei : e ≠ it) (het : e ≠ t) :
    Turn P w K (.Tuple elts kk tpos) (ItT K t) [e, it] e (fun i h => (∃ old, IsEnum h e it ((i : Nat) : Int) old) ∧ h.IsTupleIter it t i) where
  mem := by simp
  obj := by
    rintro i h ⟨⟨old, he⟩, ⟨o, ho, hc, hd⟩⟩ b hb
    rcases List.mem_cons.mp hb with z | z
    · subst z
      exact ⟨_, he, fun v q => nomatch q⟩
    · have z2 := List.mem_singleton.mp z
      subst z2
      exact ⟨o, ho, fun v q => by rw [hd] at q; cases q⟩
  keep := by
    rintro i h h' ⟨⟨old, he⟩, hi⟩ k
    exact ⟨⟨old, k e (by simp) _ he⟩, hi.at fun o q => k it (by simp) o q⟩
  item := by
    rintro X rfl rfl rfl hc i pins s σ H E I hf ⟨⟨old, he⟩, hit⟩ ⟨xs, x, hq, hx⟩
    obtain ⟨its, rv, tup, hz⟩ := I.tuple hq
    obtain ⟨u, hu, ru⟩ := rv.get hx
    have hel : e < s.heap.objs.size := Heap.lt_size he
    have hil : it < s.heap.objs.size := by
      obtain ⟨_, z, _⟩ := id hit
      exact Heap.lt_size z
    have hlt : i < its.toArray.size := by
      rw [List.size_toArray]
      exact (List.getElem?_eq_some_iff.mp hu).1
    have isT : s.heap.IsTuple t its.toArray := tup
    refine wpAny_pyNext_enum_itemD (Draws.tuple (prog := X.prog) (w := X.w) (A := X.A.in1) (show X.A.in1.handled = none from I.ok.hd hc) it t hti its.toArray) he ⟨hit, isT⟩ hlt hei (by simp [hei, het]) ?_
    rintro y h' tk hy out ⟨hit', _⟩ hT hsz hk
    have ey : y = u := by
      have z : its[i]? = some y := by simpa using hy
      rw [hu] at z
      exact (Option.some.inj z).symm
    subst ey
    refine ⟨_, rfl, wpAny_letOwnedTupleGo_enum (s := { s with heap := h', toks := tk + 1 }) out ?_⟩
    intro h2 he2 sb
    have hT2 : h2.get? s.heap.objs.size = some { cls := .type "tuple", data := .seq #[.int i tk, y] } := (sb.2 _ (Nat.ne_of_gt hel)).trans hT
    have new : ObjOk X.prog X.w (upd H s.heap.objs.size (.tup [.int (i : Nat), x])) h2 s.heap.objs.size (.tup [.int (i : Nat), x]) :=
      ⟨by show 2 ≤ sizeLine; decide, [.int i tk, y], .cons ⟨_, rfl⟩ (.cons ru .nil), ⟨_, hT2, rfl, _, rfl⟩⟩
    have old2 : ∀ b ob, b ∉ [e, it] → s.heap.get? b = some ob → h2.get? b = some ob := by
      intro b ob nb z
      have n1 : b ≠ e := fun q => nb (by simp [q])
      have n2 : b ≠ it := fun q => nb (by simp [q])
      exact (sb.2 b n1).trans (hk b ob n1 n2 z)
    have I1 : Inv X pins σ (upd H s.heap.objs.size (.tup [.int (i : Nat), x])) { s with heap := h2, toks := tk + 1 } := I.turnedNew (ch := [e, it]) old2 hf (Nat.le_refl _) new
    refine ⟨.ref s.heap.objs.size, _, I1, rfl, ⟨_, x, rfl, I.hok.fresh (Nat.le_refl _), rfl, fun ys hy => ?_⟩, ⟨⟨y, ?_⟩, hit'.at fun o z => (sb.2 it (Ne.symm hei)).trans z⟩, fun b hb => ?_⟩
    · rw [I.tuple_inj hy hq]
      exact hx
    · have e1 : ((i + 1 : Nat) : Int) = (i : Int) + 1 := by omega
      rw [e1]
      exact he2
    · have lt : b < s.heap.objs.size := by
        rcases List.mem_cons.mp hb with z | z
        · rw [z]
          exact hel
        · rw [List.mem_singleton.mp z]
          exact hil
      rw [upd_ne (Nat.ne_of_lt lt)]
      exact (hf b hb).1
  done := by
    rintro X rfl rfl rfl hc i pins s σ H E I hf ⟨⟨old, he⟩, hit⟩ ⟨xs, hq, hx⟩
    obtain ⟨its, rv, tup, hz⟩ := I.tuple hq
    obtain ⟨f0, f1, f2, f3, f4, f5⟩ := hf it (by simp)
    have isT : s.heap.IsTuple t its.toArray := tup
    have hsz : its.toArray.size = i := by
      rw [List.size_toArray, ← rv.length]
      exact hx
    refine wpAny_pyNext_enum_endD (Draws.tuple (prog := X.prog) (w := X.w) (A := X.A.in1) (show X.A.in1.handled = none from I.ok.hd hc) it t hti its.toArray) he ⟨by rw [hsz]; exact hit, isT⟩ ?_
    intro h' eb
    exact ⟨rfl, I.turned (t' := s.toks) (fun b o hb z => eb b o hb z) f0 f1 f3 f4 f5⟩
  self := by
    rintro A i s Q E ⟨⟨old, he⟩, _⟩ q
    exact wpAny_pyIter_enum he q
def iEnumT (K : PySem.W.Frag) (ta : TA) : TI := fun σ H R => ta σ H fun vs H1 => ∃ a xs, vs = [.ref a] ∧ SqT K H1 a xs ∧ R (ItT K a) H1
theorem pi_enumT {X : Cx} {e : Expr} {ta : TA} {p pos tpos : Pos} {elts : List Expr} {kk : Nat} (hg : Gl X "enumerate") (hm : X.mg "enumerate" = none) (ha : PA X [e] ta) (hs : starEach [e] X.env = [(false, eval e X.env)] := by rfl) :
    PI X (.Tuple elts kk tpos) (.Call (.Name "enumerate" p) [e] [] pos) (iEnumT X.K ta) := by
  refine ⟨fun pins s σ H R I want => ?_⟩
  refine Call_ (ld_blt I hg hm boot_enumerate (PyProof.Rows.callWith_type1 (thn (ha.run pos pins s σ H _ I want) ?_) hs rfl))
  rintro us s1 ⟨vs, H1, I1, r1, t, xs, rfl, hq, want1⟩
  obtain ⟨u, rfl, ru⟩ := vals1 r1
  cases ru
  obtain ⟨its, rv, tup, hz⟩ := I1.tuple hq
  have isT : s1.heap.IsTuple t its.toArray := tup
  have tl : t < s1.heap.objs.size := by
    obtain ⟨o, z, _⟩ := id isT
    exact Heap.lt_size z
  refine enum1_begins (begins_tuple t its.toArray) isT ?_
  intro h' he hit hk
  refine wpAny_pyIter_enum he ?_
  have I2 : Inv X pins σ H1 { s1 with heap := h' } := I1.kept (t' := s1.toks) hk
  refine ⟨s1.heap.objs.size + 1, [s1.heap.objs.size + 1, s1.heap.objs.size], _, _, H1, rfl, I2, turn_T t (s1.heap.objs.size + 1) s1.heap.objs.size (Nat.ne_of_lt tl) (Nat.succ_ne_self _) (Nat.ne_of_gt (Nat.lt_succ_of_lt tl)), ⟨⟨.none, he⟩, ⟨_, hit, rfl, rfl⟩⟩, fun b hb => ?_, want1⟩
  have le : s1.heap.objs.size ≤ b := by
    rcases List.mem_cons.mp hb with z | z
    · rw [z]
      exact Nat.le_add_right _ _
    · rw [List.mem_singleton.mp z]
      exact Nat.le_refl _
  exact I1.fpOk le (I1.hok.fresh le)
section
variable {X : Cx}
/-- t == (), t any tuple -/
theorem op_eqNil (hu : X.A.units < cLine) : OpR X (compareOp .Eq) (fun x y H Q => ∃ a b xs, x = .ref a ∧ y = .ref b ∧ SqT X.K H a xs ∧ SqT X.K H b [] ∧ Q (.bl xs.isEmpty) H) := by
  intro pins s σ H x y v u Q I rx ry want
  obtain ⟨a, b, xs, rfl, rfl, ha, hb, q⟩ := want
  cases rx
  cases ry
  obtain ⟨its, rv, t1, _⟩ := I.tuple ha
  obtain ⟨its2, rv2, t2, _⟩ := I.tuple hb
  cases rv2
  have i1 : s.heap.IsTuple a its.toArray := t1
  have i2 : s.heap.IsTuple b ([] : List Value).toArray := t2
  have rc := PySem.SeqAt.RcAt.tuples (A := X.A) (e := fun _ => true) i1 i2 hu (fun j _ h2 => absurd h2 (by simp))
  refine rc X.prog X.w X.xe _ ⟨.bl xs.isEmpty, H, I, ?_, q⟩
  cases rv with
  | nil => rfl
  | cons _ _ => rfl
end
end Gd
/-! t[::-1] of a tuple -/
namespace Gd
open PySem PySem.Spec PyProof.Rows L2
section
variable {prog : Program} {w : World} {A : Around} {E : Value → Shared → Prop} {s : Shared}
theorem applied_back {sl : Addr} {vl vu : Value} {tk : Tok} {n : Nat} {Q : Int × Int × Nat → Shared → Prop} (hs : s.heap.IsSliceOf sl vl vu (.int (-1) tk)) (pl : IsPart vl none) (pu : IsPart vu none)
    (q : Q ((n : Int) - 1, -1, n) s) : wpAny (model prog w) A (Builtin.Slice.sliceApplied (.ref sl) (pure (n : Int))) Q E s := by
  obtain ⟨o, ho, hc, hd⟩ := id hs
  unfold Builtin.Slice.sliceApplied Builtin.Slice.sliceFields
  refine wpAny_bind (wpAny_bind (wpAny_field ho hd (x := vl) rfl ?_))
  refine wpAny_bind (wpAny_field ho hd (x := vu) rfl ?_)
  refine wpAny_bind (wpAny_field ho hd (x := .int (-1) tk) rfl (wpAny_pure ?_))
  refine wpAny_bind (HT.slicePart_ (IsPart.int (-1) tk) ?_)
  show wpAny _ _ (if ((-1 : Int) == 0) = true then _ else _) _ _ s
  rw [if_neg (by decide)]
  refine wpAny_bind (HT.slicePart_ pl ?_)
  refine wpAny_bind (HT.slicePart_ pu ?_)
  refine wpAny_bind (wpAny_pure ?_)
  have adj : Builtin.Slice.sliceAdjust none none (-1) (n : Int) = ((n : Int) - 1, -1) := by
    unfold Builtin.Slice.sliceAdjust
    simp
  have plc : Builtin.Slice.slicePlaces ((n : Int) - 1) (-1) (-1) = n := by
    unfold Builtin.Slice.slicePlaces
    have z1 : ¬ ((-1 : Int) > 0) := by decide
    simp only [z1, if_false, show (- -1 : Int) = 1 by decide, Int.ediv_one]
    split <;> omega
  show wpAny _ _ (match Builtin.Slice.sliceAdjust none none (-1) (n : Int) with | (lo, hi) => pure (lo, (-1 : Int), Builtin.Slice.slicePlaces lo hi (-1))) _ _ s
  rw [adj]
  show wpAny _ _ (pure ((n : Int) - 1, (-1 : Int), Builtin.Slice.slicePlaces ((n : Int) - 1) (-1) (-1))) _ _ s
  rw [plc]
  exact wpAny_pure q
theorem pick_back (xs : Array Value) : ((List.range xs.size).filterMap fun (m : Nat) => xs[(((xs.size : Nat) : Int) - 1 + (m : Int) * (-1)).toNat]?).toArray = xs.toList.reverse.toArray := by
  congr 1
  have e : (List.range xs.size).filterMap (fun (m : Nat) => xs[(((xs.size : Nat) : Int) - 1 + (m : Int) * (-1)).toNat]?) = ((List.range xs.size).map (fun k => xs.size - 1 - k)).filterMap (xs[·]?) := by
    rw [List.filterMap_map]
    congr 1
    funext m
    show xs[_]? = xs[_]?
    congr 1
    dsimp only
    omega
  rw [e, PySem.W.krv_range, List.filterMap_reverse, PySem.W.krv_all]
theorem getItem_back {t sl : Addr} {items : Array Value} {vl vu : Value} {tk : Tok} {Q : Value → Shared → Prop} (ht : IsTup s.heap t items) (hs : s.heap.IsSliceOf sl vl vu (.int (-1) tk)) (pl : IsPart vl none) (pu : IsPart vu none)
    (q : Q (.ref s.heap.objs.size) { s with heap := s.heap.push { cls := .type "tuple", data := .seq items.toList.reverse.toArray } }) (sz : items.size ≤ sizeLine) : wpAny (model prog w) A (getItem (.ref t) (.ref sl)) Q E s := by
  have fits : sizeOk (.seq items.toList.reverse.toArray) := by
    show items.toList.reverse.toArray.size ≤ sizeLine
    rw [List.size_toArray, List.length_reverse, Array.length_toList]
    exact sz
  obtain ⟨o, ho, hc, hd⟩ := id hs
  have isS : s.TypeIs (.ref sl) "slice" := ⟨o, ho, hc⟩
  unfold getItem
  try with_reducible refine wpAny_holding ?_
  first | refine wpAny_bind (wpAny_pure ?_) | skip
  refine wpAny_bind (wpAny_sequenceKey ht.typeIs (by decide) ?_)
  refine wpAny_bind (wpAny_callSpecial?_slot (name := Str.ofString "__getitem__") ht.typeIs PyProof.Rows.slot_tuple_getitem
    (wpAny_call_entry PyProof.Rows.slot_tuple_getitem ht.typeIs entry_tuple_getitem ?_ (args_tuple_getitem _ _)))
  show wpAny _ _ (Builtin.Tuple.tupleItemsOf (.ref t) >>= _) _ _ s
  refine wpAny_bind (tupleItemsOf_ ht ?_)
  refine wpAny_bind (wpAny_typeOf isS ?_)
  rw [if_pos (by decide)]
  refine wpAny_bind (applied_back hs pl pu ?_)
  have no : ¬ ((((items.size : Int) - 1 == 0) && (-1 : Int) == 1 && (items.size == items.size)) = true) := by
    intro z
    rw [Bool.and_eq_true, Bool.and_eq_true] at z
    exact absurd z.1.2 (by decide)
  show wpAny _ _ (if (((items.size : Int) - 1 == 0) && (-1 : Int) == 1 && (items.size == items.size)) = true then _ else _) _ _ s
  rw [if_neg no, pick_back]
  first
    | exact wpAny_bind (m := Builtin.Tuple.tupleExact _) (wpAny_newObj_type (wpAny_pure ⟨_, rfl, wpAny_pure q⟩) fits)
    | exact wpAny_bind (m := Builtin.Tuple.tupleExact _) (wpAny_newObj_type (wpAny_bind (wpAny_pure (wpAny_pure ⟨_, rfl, wpAny_pure q⟩))) fits)
    | exact wpAny_bind (wpAny_bind (m := Builtin.Tuple.tupleExact _) (wpAny_newObj_type (wpAny_pure (wpAny_pure ⟨_, rfl, wpAny_pure q⟩)) fits))
    | exact wpAny_bind (wpAny_bind (m := Builtin.Tuple.tupleExact _) (wpAny_newObj_type (wpAny_pure ⟨_, rfl, wpAny_pure q⟩) fits))
end
section
variable {X : Cx}
def tBack (K : PySem.W.Frag) (te : TE) : TE := fun σ H Q => te σ H fun x H1 => ∃ a xs, x = .ref a ∧ SqT K H1 a xs ∧ ∀ p, H1 p = none → Q (.ref p) (upd H1 p (.tup xs.reverse))
theorem pe_back {e : Expr} {te : TE} {k : Nat} {p1 p2 p3 pos : Pos} (he : PE X e te) : PE X (.Subscript e (.Slice none none (some (.UnaryOp .USub (.Constant (.int 1) k p1) p2)) p3) pos) (tBack X.K te) := by
  refine ⟨fun pins s σ H Q I want => ?_⟩
  refine Subscript_ (thn (he.run pins s σ H _ I want) ?_)
  rintro v s1 ⟨x, H1, I1, r1, a, xs, rfl, hx, want1⟩
  cases r1
  refine wpAny_Slice (thn (po_none.run pins s1 σ H1 (fun o G => o = none ∧ G = H1) I1 ⟨rfl, rfl⟩) ?_)
  rintro vl s2 ⟨l, G2, I2, pl, rfl, rfl⟩
  refine thn (po_none.run pins s2 σ G2 (fun o G => o = none ∧ G = G2) I2 ⟨rfl, rfl⟩) ?_
  rintro vu s3 ⟨u, G3, I3, pu, rfl, rfl⟩
  have hst : PE X (.UnaryOp .USub (.Constant (.int 1) k p1) p2) (tUn (rU fun i => .int (-i)) (tC (.int 1))) := pe_un un_neg pe_int
  rw [evalPart_some]
  refine thn (hst.run pins s3 σ G3 (fun y G => y = .int (-1) ∧ G = G3) I3 ⟨1, rfl, rfl, rfl⟩) ?_
  rintro vs s4 ⟨y, H4, I4, ry, rfl, rfl⟩
  obtain ⟨tk, rfl⟩ := ry
  have I5 : Inv X pins σ H4 { s4 with heap := s4.heap.push { cls := .type "slice", data := .fields #[vl, vu, .int (-1) tk] } } := I4.kept (t' := s4.toks) fun b ob z => Heap.get?_push_of_some _ z
  obtain ⟨its, r, ht, hz⟩ := I5.tuple hx
  have hlen := r.length
  refine tail_any (ops := [.ref a, .ref s4.heap.objs.size]) ht.typeIs (PyProof.Rows.slot_tuple_getitem.lookup) ?_ (by with_unfolding_all rfl)
  refine getItem_back ht (Heap.IsSliceOf.new _ vl vu _) pl pu ?_ (by rw [List.size_toArray]; omega)
  refine ⟨.ref _, _, I5.laid (t' := s4.toks) (o := .tup xs.reverse) (fun b ob z => Heap.get?_push_of_some _ z) (Nat.le_refl _) ?_, rfl, want1 _ (I5.hok.fresh (Nat.le_refl _))⟩
  exact ⟨by rw [List.length_reverse]; exact hz, _, r.reverse, ⟨_, Heap.get?_push_size _ rfl, rfl, _, rfl⟩⟩
end
end Gd
/-! the first store into a new exception of an own class, over any base -/
namespace Gd
open PySem PySem.Spec PyProof.Rows PySem.HandSPX PySem.W
open PySem.Builtin PySem.Builtin.ObjectAttr
section
variable {prog : Program} {w : World} {A : Around} {R : Result → Shared → Prop} {hp : Heap} {g : Array GenState} {d : Drawn} {t : Nat} {os : OsState}
theorem osaX {K : W.Frag} {name : Str} {tk : Tok} {v : Value} {x C : Addr} {fv : Array Value} {cd : ClassData} {tl : List Value} (pass : ∀ self : Value, refuseLoop self "__setattr__" tl = pure ()) (obj : tl.contains (.type "object") = true)
    (X : K.In hp) (hx : hp.get? x = some { cls := .ref C, data := .fields fv }) (hcd : W.clsIn K C = some cd) (hm : excTail tl cd.mro = true) (hh : cd.hasDict = true) (ha : W.findIn K (.ref C) name = some none)
    (q : ∀ h' tk' dx, (∀ b o, b ≠ x → hp.get? b = some o → h'.get? b = some o) → hp.objs.size ≤ dx → dx ≠ x → h'.get? x = some { cls := .ref C, dict := some dx, data := .fields fv } →
      h'.Ns1 dx (fun y => if y = name then some v else none) → R (.ok (.ret .none)) ⟨h', g, d, tk', os⟩) :
    codeAny (model prog w) A (.call (.builtin "object.__setattr__") ⟨[.ref x, .str name tk, v], []⟩) R ⟨hp, g, d, t, os⟩ := by
  have inst : W.InstAt hp x { cls := .ref C, data := .fields fv } C none := ⟨hx, rfl, rfl, trivial⟩
  have SF := PySem.F.store_object
  have isObj : cd.mro.contains (.type "object") = true := (excTail_contains "object" _ hm).trans obj
  have full : cd.mro.isEmpty = false := by
    cases z : cd.mro with
    | nil => rw [z] at isObj; cases isObj
    | cons _ _ => rfl
  have off : x ≠ hp.objs.size := Nat.ne_of_lt (Heap.lt_size hx)
  have sub : W.Looks (model prog w) hp (isInstance (.ref x) (.type "object")) true := by
    refine inst.type.andThen (W.looks_mroIn X ?_)
    unfold W.mroIn
    rw [hcd, Option.bind_some, if_neg (by rw [full]; decide), isObj]
  refine codeAny_call_builtin SF.slot.plain SF.entry ?_
  refine @W.check_slot (model prog w) _ _ ⟨hp, g, d, t, os⟩ "object.__setattr__" "object" "__setattr__" (.ref x) [.str name tk, v] [] _ SF.kind SF.split sub (SF.args (.ref x) (.str name tk) v) ?_
  have order : W.Looks (model prog w) hp (mroOf (.ref C)) cd.mro := (W.looks_clsIn X hcd).andThen .now
  have taker : W.Looks (model prog w) hp (storeTaker? none) none := .now
  have data : W.Looks (model prog w) hp (classData C) cd := W.looks_clsIn X hcd
  rw [W.osa_eq, refuse_eq]
  refine wpAny_bind (wpAny_bind (inst.type.at (wpAny_bind (order.at ?_))))
  rw [excTail_pass (.ref x) (pass _) _ hm]
  refine wpAny_pure (wpAny_bind (inst.type.at (wpAny_bind ((W.looks_findIn X ha).at ?_))))
  refine wpAny_bind (taker.at ?_)
  show wpAny _ _ (storeInOwnDict (.ref x) (.ref C) (.str name tk) name v false) _ _ _
  obtain ⟨nm, bs, mro, ns, qn, hd, sn, sb, ab, col, del⟩ := cd
  dsimp only at hh
  subst hh
  unfold storeInOwnDict ownDictForStores
  repeat (first | with_reducible refine store_in_new ?_ ?_ | with_reducible refine wpAny_loadPart_at hx ?_ | with_reducible refine data.at ?_ | wp_step)
  · refine ⟨_, #[], _, (Heap.get?_update_ne _ _ _ _ off.symm).trans (Heap.get?_push_at rfl rfl), rfl, ?_, fun _ => rfl⟩
    intro e he
    exact absurd he (by simp)
  · intro h' tk' hn' hs
    have was : (hp.push { cls := .type "dict", data := .dict #[] }).get? x = some { cls := .ref C, data := .fields fv } := Heap.get?_push_of_some _ hx
    refine q h' tk' hp.objs.size ?_ (Nat.le_refl _) off.symm ((hs.2 x off).trans (Heap.get?_update_self _ was rfl)) hn'
    intro b o hb ho
    exact (hs.2 b (Nat.ne_of_lt (Heap.lt_size ho))).trans ((Heap.get?_update_ne _ _ _ _ hb).trans (Heap.get?_push_of_some _ ho))
end
end Gd
namespace PySem
namespace NoWindowX
open PySem.W PySem.Calls PyProof.Rows PySem.HandSPX
abbrev exTl : List Value := [.type "LookupError", .type "Exception", .type "BaseException", .type "object"]
/-! ### the text of __init__ -/
def iA (p1 p2 : Pos) : Arguments := { posonlyargs := [], args := [{ arg := "self", annotation := none, pos := p1 }, { arg := "value", annotation := none, pos := p2 }], vararg := none, kwonlyargs := [], kw_defaults := [], kwarg := none, defaults := [] }
def iB (q1 q2 q3 q4 : Pos) : List Stmt := [.Assign [.Attribute (.Name "self" q1) "value" q2] (.Name "value" q3) q4]
def iS : Scope := { kind := .function, names := [(PySem.Str.ofString "self", .local), (PySem.Str.ofString "value", .local)], isGenerator := false, isCoroutine := false, more := [] }
/-- what the written part says of Low, at C, and of its __init__, at fI -/
structure NoWindowTxt (K : Frag) (mg : Str → Option Value) (C fI : Addr) : Prop where
  gC : mg "NoWindow" = some (.ref C)
  cls : ∃ nm q N bs bm sn sub ab col dd k0 k1 k2 k3 k5, K.lookup C = some (excClassObj nm q C N bs bm true sn sub ab col dd k0 k1 k2 k3 k5 "LookupError.__new__") ∧ excTail exTl bm = true
  sa : findIn K (.ref C) "__setattr__" = some (some (.builtin "object.__setattr__"))
  ga : findIn K (.ref C) "__getattribute__" = some (some (.builtin "BaseException.__getattribute__"))
  gg : findIn K (.ref C) "__getattr__" = some none
  noN : findIn K (.ref C) "value" = some none
  iC : findIn K (.ref C) "__init__" = some (some (.ref fI))
  tC : typeIn K (.ref fI) = some (.type "function")
  kC : keepIn K (.ref C) = true
  exC : subIn K (.ref C) (.type "BaseException") = some true
  tyC : typeIn K (.ref C) = some (.type "type")
  hdC : hasDictIn K C = true
  te : exmOne K (.ref C) (.ref C) = some true
  fn : ∃ (oc : Value) (od : Option Addr) (doc pm : Value) (an : Option Addr) (cdv ct : Value) (osl : Array (Option Value)) (p1 p2 q1 q2 q3 q4 : Pos),
    K.lookup fI = some ⟨oc, od, .func (fnOf "__init__" "NoWindow.__init__" (iA p1 p2) (iB q1 q2 q3 q4) iS .none .none doc pm an cdv ct), osl⟩ ∧ codeIn K cdv "NoWindow.__init__" = true
theorem one_size (v : Value) : [v].length ≤ sizeLine := by
  rw [sizeLine_eq]
  exact (by decide : 1 ≤ 16777216)
theorem kept_but {K : Frag} {h h' : Heap} {x : Addr} (X : K.In h) (hx : K.lookup x = none) (k : ∀ b o, b ≠ x → h.get? b = some o → h'.get? b = some o) : K.In h' := fun a o e =>
  k a o (fun z => by rw [z, hx] at e; cases e) (X a o e)
theorem ldC {M : Model} {s : Shared} {name : Str} {scope : Scope} {L a : Addr} {cd : Value} {m : Str → Option Value} {x : Str} {pos : Pos} {v : Value} {Q : Value → Shared → Prop} {A : Around} {E : Value → Shared → Prop} (hn : s.heap.Ns L m) (hv : m x = some v) (h : Q v s)
    (hk : scope.kind = .function := by rfl) (hl : (envOfC name scope L a cd).kindOf x = some .local := by rfl) (hd : (x == ("__debug__" : Str)) = false := by decide) :
    wpAny M A (eval (.Name x pos) (envOfC name scope L a cd)) Q E s := wpAny_Name (wpAny_loadName_local hk hl hn hv h) hd
/-- what __init__ leaves of a fresh exception at x -/
structure InitEnd (h h' : Heap) (x C dx t1 : Addr) (v : Value) : Prop where
  keep : ∀ b o, b ≠ x → h.get? b = some o → h'.get? b = some o
  obj : h'.get? x = some { cls := .ref C, dict := some dx, data := .fields #[.ref t1, .none, .none, .none, .bool false, .none] }
  dbig : h.objs.size ≤ dx
  dne : dx ≠ x
  ns : h'.Ns1 dx (fun y => if y = "value" then some v else none)
/-- a made Low -/
structure OwnMade (h h' : Heap) (e C d : Addr) (v : Value) : Prop where
  keep : ∀ b o, h.get? b = some o → h'.get? b = some o
  new : h.objs.size ≤ e
  obj : ∃ oe vs, h'.get? e = some oe ∧ oe.cls = .ref C ∧ oe.dict = some d ∧ oe.data = .fields vs ∧ vs[1]? = some .none
  dbig : h.objs.size ≤ d
  dne : d ≠ e
  ns : h'.Ns1 d (fun y => if y = "value" then some v else none)
section
variable {prog : Program} {w : World} {A : Around} {E : Value → Shared → Prop} {R : Result → Shared → Prop} {s : Shared} {K : Frag} {mg : Str → Option Value} {C fI : Addr}
theorem value_init (T : NoWindowTxt K mg C fI) {x t0 : Addr} {v : Value} (X : K.In s.heap) (hlim : s.heap.NoLimit) (hx : s.heap.get? x = some (excO C t0)) (hnx : K.lookup x = none) (hroom : A.depth < recursionLimit)
    (hq : ∀ h' tk dx, InitEnd s.heap h' x C dx t0 v → R (.ok (.ret .none)) { s with heap := h', toks := tk }) :
    codeAny (model prog w) A (.call (.ref fI) ⟨[.ref x, v], []⟩) R s := by
  obtain ⟨oc, od, doc, pm, an, cdv, ct, osl, p1, p2, q1, q2, q3, q4, ho, hcd⟩ := T.fn
  obtain ⟨nm, q, N, bs, bm, sn, sub, ab, col, dd, k0, k1, k2, k3, k5, hC, hbm⟩ := T.cls
  have hcl : clsIn K C = some { name := nm, bases := bs, mro := .ref C :: bm, ns := N, qualname := q, hasDict := true, slotNames := sn, subclasses := sub, abstract := ab, collection := col, hasDel := false } := by unfold clsIn; rw [hC] <;> rfl
  refine Att.call_fn (binds := [("self", .ref x), ("value", v)]) X hlim ho hcd hroom (BindsTo.of_eq (by first | rfl | with_unfolding_all rfl)) (by first | rfl | decide | with_unfolding_all rfl) (fun s₁ IC => ?_) rfl rfl rfl
  obtain ⟨h₁, tk₁, rfl⟩ := IC.toInCall.same
  have k : ∀ b o, s.heap.get? b = some o → h₁.get? b = some o := IC.toInCall.keep
  have hn := IC.toInCall.ns
  have hxL : s.heap.objs.size ≠ x := Nat.ne_of_gt (Heap.lt_size hx)
  have X₁ : K.In h₁ := X.keeps k
  have hx₁ := k _ _ hx
  -- self.by = by
  show wpAny _ _ (execs _ _) _ _ _
  refine wpAny_execs_cons (plainObj_wpAny_Assign_Attribute ?_)
  refine ldC (v := v) hn (by first | rfl | with_unfolding_all rfl | kernel_rfl) (ldC (v := .ref x) hn (by first | rfl | with_unfolding_all rfl | kernel_rfl) ?_)
  refine set_plain X₁ (ox := excO C t0) (od := none) ⟨hx₁, rfl, rfl, trivial⟩ T.sa ?_
  refine Gd.osaX (fun self => F.store_LookupError.passes self) (by decide +kernel) X₁ hx₁ hcl (show excTail exTl (.ref C :: bm) = true from hbm) rfl T.noN (fun h₃ tk₃ dx k₃ dn dne hx₃ hn₃ => ?_)
  show wpAny _ _ (execs _ _) _ _ _
  have z : s.heap.objs.size < h₁.objs.size := hn.lt
  exact wpAny_execs_nil (hq h₃ tk₃ dx ⟨fun b o hb e => k₃ b o hb (k b o e), hx₃, Nat.le_of_lt (Nat.lt_of_lt_of_le z dn), dne, hn₃⟩)
theorem value_made (T : NoWindowTxt K mg C fI) {v : Value} (X : K.In s.heap) (hlim : s.heap.NoLimit) (hroom : A.depth + 1 < recursionLimit)
    (hq : ∀ h' tk e d, OwnMade s.heap h' e C d v → R (.ok (.ret (.ref e))) { s with heap := h', toks := tk }) :
    codeAny (model prog w) A (.call (.ref C) ⟨[v], []⟩) R s := by
  obtain ⟨nm, q, N, bs, bm, sn, sub, ab, col, dd, k0, k1, k2, k3, k5, hC, hbm⟩ := T.cls
  obtain ⟨hp, g, dr, tk, os⟩ := s
  have k : ∀ b o, hp.get? b = some o → ((hp.push (kdv_tup [v])).push (excO C hp.objs.size)).get? b = some o := fun b o e => Heap.get?_push_of_some _ (Heap.get?_push_of_some _ e)
  have hget : ((hp.push (kdv_tup [v])).push (excO C hp.objs.size)).get? (hp.objs.size + 1) = some (excO C hp.objs.size) := by heap_get
  have hnx : K.lookup (hp.objs.size + 1) = none := by
    cases e : K.lookup (hp.objs.size + 1) with
    | none => rfl
    | some o =>
      have z : hp.get? (hp.objs.size + 1) = some o := X _ _ e
      exact absurd (Nat.lt_of_succ_lt (Heap.lt_size z)) (Nat.lt_irrefl _)
  refine call_own F.excBase_LookupError (fun X => excTail_contains X bm hbm) (X _ _ hC) (looks_findIn X T.iC) (fun self => bind_fn X self T.tC) (one_size v) ?_
  refine value_init (s := ⟨(hp.push (kdv_tup [v])).push (excO C hp.objs.size), g, dr, tk, os⟩) T (X.keeps k) (hlim.keeps k) hget hnx ?_ fun h' tk' dx ⟨k', hx, dn, dne, hns⟩ => ?_
  · show A.depth + 1 < recursionLimit
    exact hroom
  · have old : ∀ b o, hp.get? b = some o → h'.get? b = some o := fun b o e => k' b o (Nat.ne_of_lt (Nat.lt_succ_of_lt (Heap.lt_size e))) (k b o e)
    have z : hp.objs.size + 1 + 1 ≤ dx := by
      first
        | (simpa only [Heap.size_push] using dn)
        | exact dn
        | (have q := dn; rw [Heap.size_push, Heap.size_push] at q; exact q)
    exact ⟨rfl, hq h' tk' (hp.objs.size + 1) dx ⟨old, Nat.le_succ _, ⟨_, _, hx, rfl, rfl, rfl, rfl⟩, Nat.le_trans (Nat.le_trans (Nat.le_succ _) (Nat.le_succ _)) z, dne, hns⟩⟩
end
end NoWindowX
end PySem
namespace L2
open PySem PySem.Spec PyProof.Rows
theorem relO_value {v : V} {v' : Value} (r : RelV v v') (f : Str) : RelO (List.lookup f [(("value" : Str), v)]) (if f = "value" then some v' else none) := by
  by_cases hw : f = "value"
  · subst hw
    rw [if_pos rfl]
    have q : List.lookup ("value" : Str) [(("value" : Str), v)] = some v := by simp [List.lookup]
    rw [q]
    exact r
  · rw [if_neg hw]
    have qw : (f == ("value" : Str)) = false := by simpa using hw
    have q2 : List.lookup f [(("value" : Str), v)] = none := by simp [List.lookup, qw]
    rw [q2]
    trivial
section
variable {X : Cx} {C fI : Addr}
/-- Low(e) -/
def tMkNoWindow (C : Addr) (ta : TA) : St → Hp → XK → Prop := fun σ H Q => ta σ H fun vs H1 => ∃ v, vs = [v] ∧ ∀ d, H1 d = none → Q (.ref C) (some d) (upd H1 d (.xd [(("value" : Str), v)]))
theorem pmk_NoWindow {a : Expr} {ta : TA} {p pos : Pos} {k : Nat} (T : PySem.NoWindowX.NoWindowTxt X.K X.mg C fI) (hr : Room k X.A) (ha : PA X [a] ta) (hg : Gl X "NoWindow" := by rfl)
    (he : starEach (a :: []) X.env = (false, eval a X.env) :: starEach [] X.env := by rfl) (hpl : (backTo pos (starEach [] X.env)).any (·.1) = false := by rfl) :
    PMk X (.Call (.Name "NoWindow" p) [a] [] pos) (tMkNoWindow C ta) := by
  intro pins s σ H Q I h
  refine wpAny_Call_Name_kw (ld_glob I hg T.gC ?_)
  refine PySem.W.callWith_K (h₀ := X.base) I.ok.mod.kin T.kC (thn (ha.run pos pins s σ H _ I h) fun us s1 hh => ?_) he hpl
  obtain ⟨vs, H1, I1, r1, v, ev, q1⟩ := hh
  subst ev
  refine ⟨I1.kIn, ?_⟩
  cases r1 with
  | cons rv rn =>
    rename_i v' us'
    cases rn
    show wpAny _ _ (call (.ref C) [v']) _ _ _
    have hlim := I1.nolimit
    obtain ⟨hp, g, dr, tk, os⟩ := s1
    refine wpAny_call (PySem.NoWindowX.value_made T I1.kIn hlim (by have := hr.dp; omega) fun h' tk' e d M => ?_)
    show MkP X pins σ Q (.ref e) ⟨h', g, dr, tk', os⟩
    obtain ⟨oe, fv, hoe, hc, hd, hdat, h1⟩ := M.obj
    have hns := M.ns
    obtain ⟨G', g1, g2⟩ := restrict h' fun b => decide (b ≠ e)
    have gk : ∀ b, b ≠ e → G'.get? b = h'.get? b := fun b hb => g1 b (decide_eq_true hb)
    have ge : G'.get? e = none := g2 e (by simp)
    have old : ∀ b o, hp.get? b = some o → G'.get? b = some o := fun b o q => (gk b (Nat.ne_of_lt (Nat.lt_of_lt_of_le (Heap.lt_size q) M.new))).trans (M.keep b o q)
    have ob : ObjOk X.prog X.w (upd H1 d (.xd [(("value" : Str), v)])) G' d (.xd [(("value" : Str), v)]) :=
      ⟨_, hns.at (fun o q => (gk d M.dne).trans q), fun f => relO_value rv f⟩
    have J : Inv X pins σ (upd H1 d (.xd [(("value" : Str), v)])) ⟨G', g, dr, tk', os⟩ := I1.laid (t' := tk') old M.dbig ob
    refine ⟨e, oe, fv, ⟨G', g, dr, tk', os⟩, _, .ref C, some d, rfl, J, fun b o q => ?_, ge, hoe, ⟨hc, hd⟩, hdat, h1, ?_, rfl, I1.bare, raises_own T.exC T.tyC, q1 d (I1.hok.fresh M.dbig)⟩
    · by_cases hb : b = e
      · have q' : G'.get? b = some o := q
        rw [hb, ge] at q'; cases q'
      · exact (gk b hb).symm.trans q
    · rw [upd_ne (Ne.symm M.dne)]
      exact I1.hok.fresh M.new
/-- raise Low(e) -/
def tRaiseNoWindow (C : Addr) (W : WX) (ta : TA) : TS := fun _ σ H => tMkNoWindow C ta σ H fun cls d H' => W cls d σ H'
theorem ps_raiseNoWindow {a : Expr} {ta : TA} {W : WX} {p pos pos2 : Pos} {k : Nat} (hc : X.calm = true) (T : PySem.NoWindowX.NoWindowTxt X.K X.mg C fI) (hr : Room k X.A) (tk : Takes X W) (ha : PA X [a] ta) (hg : Gl X "NoWindow" := by rfl)
    (he : starEach (a :: []) X.env = (false, eval a X.env) :: starEach [] X.env := by rfl) (hpl : (backTo pos (starEach [] X.env)).any (·.1) = false := by rfl) :
    PS X (.Raise (some (.Call (.Name "NoWindow" p) [a] [] pos)) none pos2) (tRaiseNoWindow C W ta) := ps_raise hc tk (pmk_NoWindow T hr ha hg he hpl)
/-- low.by, low the exception that the suite holds (at a; its class cls, its dict d) -/
def tByNoWindow (C : Addr) (a : Addr) (cls : Value) (d : Option Addr) (te : TE) : TE := fun σ H Q => te σ H fun x H1 => x = .ref a ∧ cls = .ref C ∧ ∃ (dd : Addr) (v : V), d = some dd ∧ H1 dd = some (.xd [(("value" : Str), v)]) ∧ Q v H1
theorem pe_byNoWindow {a : Addr} {oe : Obj} {cls : Value} {d : Option Addr} {pn : List (Addr × Obj)} {e : Expr} {te : TE} {pos : Pos} (T : PySem.NoWindowX.NoWindowTxt X.K X.mg C fI) (hz : Zc cls d oe) (hf : ∃ vs, oe.data = .fields vs) (he : PE (X.suite a ((a, oe) :: pn)) e te)
    (hb : attributeBase e "value" X.env (eval e X.env) = eval e X.env := by rfl) :
    PE (X.suite a ((a, oe) :: pn)) (.Attribute e "value" pos) (tByNoWindow C a cls d te) := by
  refine ⟨fun pins s σ H Q I h => ?_⟩
  refine attr_of hb (thn (he.run pins s σ H _ I h) fun u s1 hh => ?_)
  obtain ⟨x, H1, I1, rx, ex, ec, dd, v, ed, ea, q⟩ := hh
  subst ex
  obtain rfl : u = Value.ref a := rx
  subst ec
  subst ed
  obtain ⟨ha, _⟩ := I1.pin (a, oe) (List.mem_append_left _ List.mem_cons_self)
  obtain ⟨vs, hd⟩ := hf
  have hx : ObjOk X.prog X.w H1 s1.heap dd (.xd [(("value" : Str), v)]) := I1.hok dd _ ea
  obtain ⟨mA, hns, hr⟩ := hx
  obtain ⟨od, ho, hl⟩ := lookIn_ns hns
  have l : List.lookup ("value" : Str) [(("value" : Str), v)] = some v := by simp [List.lookup]
  obtain ⟨u, hu, ru⟩ := RelO.some_of (v := v) (o := mA "value") (by rw [← l]; exact hr "value")
  have J : PySem.W.InstAt s1.heap a oe C (some od) := ⟨ha, hz.1, by unfold PySem.W.notCls; rw [hd] <;> rfl, by rw [hz.2]; exact ho⟩
  exact HandSPX.exc_get I1.kIn J T.ga T.gg T.exC (PySem.W.findObj_own T.hdC T.noN rfl (by rw [hl, hu])) (handed_of ru) ⟨v, H1, I1.tok _, ru, q⟩
end
end L2
/-! a def held by a local name, called where what it raises is caught; isinstance of a caught error that has fields -/
namespace Gd
open PySem PySem.Spec PyProof.Rows L2
section
variable {X : Cx} {CX : CXT} {k i : Nat} {f : Addr} {fd : FuncData} {ps : List Str} {sp : Sp} {E : L2.St → XK} {x : Str} {p pos : Pos} {e : Expr} {es : List Expr} {t : TA}
def tCallLS (i : Nat) (f : Addr) (sp : Sp) (E : L2.St → XK) (t : TA) : TE := fun σ H Q => σ[i]? = some (some (.ref f)) ∧ t σ H fun vs H1 => sp vs H1 Q (E σ)
theorem pe_callLS (F : FnOk X.prog X.w X.K X.mg X.base CX k f fd ps sp) (hr : Room k X.A) (hN : X.N[i]? = some x) (hv : Vis X.env.scope x) (hk : PySem.W.keepIn X.K (.ref f) = true) (hb : Binds X.K fd ps []) (hx : ∀ σ, PassesAt CX X σ (E σ)) (ha : PA X (e :: es) t)
    (hdb : (x == ("__debug__" : Str)) = false := by decide) (hcd : (x == ("__classdict__" : Str)) = false := by decide)
    (he : starEach (e :: es) X.env = (false, eval e X.env) :: starEach es X.env := by rfl) (hpl : (backTo pos (starEach es X.env)).any (·.1) = false := by rfl) : PE X (.Call (.Name x p) (e :: es) [] pos) (tCallLS i f sp E t) := by
  refine ⟨?_⟩
  rintro pins s σ H Q I ⟨slot, want⟩
  have name := (pe_var (pos := p) hN hv hdb hcd).run pins s σ H (fun v G => v = .ref f ∧ G = H) I ⟨.ref f, slot, rfl, rfl⟩
  refine wpAny_Call_Name_kw (thn name ?_)
  rintro u s1 ⟨v, H1, I1, r1, rfl, rfl⟩
  cases r1
  refine PySem.W.callWith_K (h₀ := X.base) I.ok.mod.kin hk (thn (ha.run pos pins s1 σ _ _ I1 want) ?_) he hpl
  rintro us s2 ⟨vs, H2, I2, r2, q2⟩
  exact ⟨I2.kIn, run_fnS F hr hb (hx σ) I2 r2 q2⟩
end
/-- what isinstance asks of the class of an error -/
structure ExcD (K : PySem.W.Frag) (D : Addr) : Prop where
  cl : (PySem.W.clsIn K D).isSome = true
  ga : PySem.W.findIn K (.ref D) "__getattribute__" = some (some (.builtin "BaseException.__getattribute__"))
  gg : PySem.W.findIn K (.ref D) "__getattr__" = some none
  sb : PySem.W.subIn K (.ref D) (.type "BaseException") = some true
  ca : PySem.W.findIn K (.ref D) "__class__" = some (some (.builtin "object.__class__"))
  cg : PySem.W.specialIn K (.builtin "object.__class__") "__get__" = some (some (.builtin "getset_descriptor.__get__"))
  ct : PySem.W.takesIn K (.builtin "object.__class__") = some true
  co : PySem.W.mroIn K D (.type "object") = some true
section
variable {X : Cx} {a D : Addr} {oe : Obj} {d : Option Addr} {pn : List (Addr × Obj)}
theorem inst_of {pins : List (Addr × Obj)} {σ : L2.St} {H : Hp} {s : Shared} {dd : Addr} {fs : List (Str × V)} (I : Inv (X.suite a ((a, oe) :: pn)) pins σ H s) (hz : Zc (.ref D) d oe) (hf : ∃ vs, oe.data = .fields vs) (ed : d = some dd) (hx : H dd = some (.xd fs)) :
    ∃ od, PySem.W.InstAt s.heap a oe D (some od) := by
  obtain ⟨get, _⟩ := I.pin (a, oe) (List.mem_append_left _ List.mem_cons_self)
  obtain ⟨vs, hd⟩ := hf
  have ox : ObjOk X.prog X.w H s.heap dd (.xd fs) := I.hok dd _ hx
  obtain ⟨mA, hns, _⟩ := ox
  obtain ⟨od, ho, _⟩ := lookIn_ns hns
  subst ed
  exact ⟨od, get, hz.1, by unfold PySem.W.notCls; rw [hd] <;> rfl, by rw [hz.2]; exact ho⟩
def rIsX (K : PySem.W.Frag) (D a : Addr) (cls : Value) (d : Option Addr) : List V → Hp → VK → Prop := fun xs H Q => ∃ (c : V) (u : Value) (b : Bool) (dd : Addr) (fs : List (Str × V)), xs = [.ref a, c] ∧ cls = .ref D ∧ ClsV c u ∧ d = some dd ∧ H dd = some (.xd fs) ∧ PySem.W.kitOne K (.ref D) u = some b ∧ Q (.bl b) H
theorem call_isX {cls : Value} (C : ExcD X.K D) (hz : Zc cls d oe) (hf : ∃ vs, oe.data = .fields vs) : CallR (X.suite a ((a, oe) :: pn)) (.builtin "isinstance") (rIsX X.K D a cls d) := by
  intro pins s σ H xs us Q I r want
  obtain ⟨c, u, b, dd, fs, rfl, ec, kc, ed, hx, e, q⟩ := want
  subst ec
  obtain ⟨u1, u2, rfl, r1, r2⟩ := vals2 r
  cases r1
  have e2 := kc.eq r2
  subst e2
  obtain ⟨od, J⟩ := inst_of I hz hf ed hx
  exact PySem.W.kia_one (PySem.W.kitx_exc C.cl C.ga C.gg C.sb C.ca C.cg C.ct C.co) I.kIn J e (fun z => nomatch z) fun tk => ⟨.bl b, H, I.tok tk, rfl, q⟩
def rIsXT (K : PySem.W.Frag) (D a : Addr) (cls : Value) (d : Option Addr) : List V → Hp → VK → Prop := fun xs H Q => ∃ (tp : Addr) (cs : List V) (us : List Value) (b : Bool) (dd : Addr) (fs : List (Str × V)), xs = [.ref a, .ref tp] ∧ cls = .ref D ∧ H tp = some (.tup cs) ∧ Paired ClsV cs us ∧ d = some dd ∧ H dd = some (.xd fs) ∧
  PySem.W.kitAny K (.ref D) us = some b ∧ Q (.bl b) H
theorem call_isXT {cls : Value} (C : ExcD X.K D) (hz : Zc cls d oe) (hf : ∃ vs, oe.data = .fields vs) : CallR (X.suite a ((a, oe) :: pn)) (.builtin "isinstance") (rIsXT X.K D a cls d) := by
  intro pins s σ H xs us Q I r want
  obtain ⟨tp, cs, ws, b, dd, fs, rfl, ec, hT, kc, ed, hx, e, q⟩ := want
  subst ec
  obtain ⟨u1, u2, rfl, r1, r2⟩ := vals2 r
  cases r1
  cases r2
  obtain ⟨od, J⟩ := inst_of I hz hf ed hx
  obtain ⟨_, its, rv, o, h1, h2, n, h3⟩ := (show ObjOk X.prog X.w H s.heap tp (.tup cs) from I.hok tp _ hT)
  have e3 := ClsV.all kc rv
  subst e3
  obtain ⟨oc, od2, dt, sl⟩ := o
  simp only at h2 h3
  subst h2 h3
  exact PySem.W.kia_tup (PySem.W.kitx_exc C.cl C.ga C.gg C.sb C.ca C.cg C.ct C.co) I.kIn J h1 e (fun z => nomatch z) fun tk => ⟨.bl b, H, I.tok tk, rfl, q⟩
end
end Gd
namespace Lw
open PySem PySem.Spec PyProof.Rows L2 Gd
def topS (i : Nat) : Stmt := PySem.Challenge.pw_leastplaces_k03_least_places_of_windows.main.body.getD i (.Pass ⟨0, 0, 0, 0⟩)
abbrev sStream : Stmt := topS 11
abbrev sDraw : Stmt := topS 12
theorem scDraw : FnScope ["_law_stream_here", "_law_many", "_law_rest", "_law_turn", "_law_cell", "_law_mixed"] ["_law_stream_here", "_law_many"] (defScope sDraw) := ⟨rfl, rfl, rfl, by decide +kernel, rfl, by decide +kernel, by decide +kernel⟩

/-! ### the stream -/
/-- what the draws may change -/
abbrev Av (s a : Addr) : Addr → Prop := fun x => x = s ∨ x = a
structure Sm (H : Hp) (s a b : Addr) (n : Nat) : Prop where
  ex : ∃ (t : Int) (bigs cells : List Int), H s = some (.lst [.ref a, .ref b, .int t]) ∧ H a = some (.lst (bigs.map V.int)) ∧ H b = some (.lst (cells.map V.int)) ∧ (∀ c ∈ bigs, 0 ≤ c) ∧ (∀ c ∈ cells, 0 ≤ c) ∧ cells ≠ [] ∧
    cells.length ≤ 64 ∧ bigs.length ≤ 63 ∧ 0 ≤ t ∧ t ≤ n
  sa : s ≠ a
  sb : s ≠ b
  ab : a ≠ b
theorem Sm.keep {H H' : Hp} {s a b : Addr} {n : Nat} (x : Sm H s a b n) (k : Same H H') : Sm H' s a b n := by
  obtain ⟨⟨t, bigs, cells, h1, h2, h3, r⟩, p1, p2, p3⟩ := x
  exact ⟨⟨t, bigs, cells, k _ _ h1, k _ _ h2, k _ _ h3, r⟩, p1, p2, p3⟩
theorem Sm.mono {H : Hp} {s a b : Addr} {n m : Nat} (x : Sm H s a b n) (k : n ≤ m) : Sm H s a b m := by
  obtain ⟨⟨t, bigs, cells, h1, h2, h3, h4, h5, h6, h7, h8, h9, h10⟩, p1, p2, p3⟩ := x
  exact ⟨⟨t, bigs, cells, h1, h2, h3, h4, h5, h6, h7, h8, h9, by omega⟩, p1, p2, p3⟩
theorem same_upd {H : Hp} {p : Addr} {o : HO} (h : H p = none) : Same H (upd H p o) := fun b x e => by
  rw [upd_ne (ne_of_none e h)]
  exact e
theorem dpAll_ints {K : PySem.W.Frag} {H : Hp} : ∀ ns : List Int, DpAll K H (ns.map V.int) (ns.map PyData.int)
  | [] => .nil
  | n :: r => .cons (.int n) (dpAll_ints r)
theorem eqv_nil (ns : List Int) : PyData.eqv (.list (ns.map PyData.int)) (.list []) = ns.isEmpty := by
  cases ns <;> simp [PyData.eqv, PyData.eqvAll]

theorem ixN_cons {x : Int} {r : List Int} : ixN ((x :: r).map V.int).length 0 = some 0 := by
  unfold ixN
  rw [if_pos (Int.le_refl 0), if_pos (by rw [List.length_map, List.length_cons]; omega)]
  rfl
def spDraw : Sp := fun vs H Q _ => ∃ (s a b : Addr) (n : Nat) (m : Int), vs = [.ref s, .int m] ∧ Sm H s a b n ∧ n < 1000000 ∧ 0 < m ∧ m ≤ 1000000000 ∧
  ∀ H' r, Kp (Av s a) H H' → Sm H' s a b (n + 1) → 0 ≤ r → r < m → Q (.int r) H'
section
variable {P : Program} {w : World} {K : PySem.W.Frag} {mg : Str → Option Value} {base : Heap}
theorem ok_draw {f : Addr} {fd : FuncData} {k : Nat} (F : Fun K "_law_draw" "_law_draw" sDraw f fd) (ml : mg "len" = none) : FnOk P w K mg base CX0 (k + 1) f fd ["_law_stream_here", "_law_many"] spDraw := by
  refine F.ok scDraw (fun vs H Q E h => ?_) (fun cdv A outer st H vs Q E hr h => ?_)
  · obtain ⟨s, a, b, n, m, rfl, _⟩ := h
    rfl
  · obtain ⟨s, a, b, n, m, rfl, sm, hn, m0, m1, q⟩ := h
    have mIx : ∀ {i : Nat}, PlainIx (.Constant (.int 0) 0 ⟨i, i, i, i⟩) := fun _ _ => rfl
    refine ⟨_, pss_cons (ps_while PassesOwn.never (pt_cmpR (op_neD hr.units) (pe_ix ix_list (pv 0) pe_int (fun _ _ => rfl)) (pe_lst pa_nil) (nomark _))
        (pss_cons (ps_set (i := 2) scDraw.nd rfl (.inl rfl) (pe_ix ix_list (pe_ix ix_list (pv 0) pe_int (fun _ _ => rfl)) pe_int (fun _ _ => rfl)))
        (pss_cons (ps_if (pt_cmpR op_gt (pv 2) pe_int (nomark _))
          (pss_cons (ps_asg (pe_op op_fdiv (pv 2) (pv 1)) (pg_sub (pe_ix ix_list (pv 0) pe_int (fun _ _ => rfl)) pe_int set_list))
            (pss_one (ps_ret (pe_op op_mod (pv 2) (pv 1))))) pss_nil)
        (pss_one (ps_expr (pe_bm PySem.F.plainAttrs_list PySem.F.slot_list_pop PySem.F.type_list_pop mt_popAt (pe_ix ix_list (pv 0) pe_int (fun _ _ => rfl)) (pa_cons pe_int pa_nil)))))))
      (pss_cons (ps_set (i := 3) scDraw.nd rfl (.inl rfl) (pe_op op_add (pe_ix ix_list (pv 0) pe_int (fun _ _ => rfl)) pe_int))
      (pss_cons (ps_asg (pv 3) (pg_sub (pv 0) pe_int set_list))
      (pss_cons (ps_set (i := 4) scDraw.nd rfl (.inl rfl) (pe_op op_mod (pe_ix ix_list (pe_ix ix_list (pv 0) pe_int (fun _ _ => rfl))
          (pe_op op_mod (pv 3) (pe_callB call_len_seq (by rfl) ml PySem.boot_len (pa_cons (pe_ix ix_list (pv 0) pe_int (fun _ _ => rfl)) pa_nil))) (fun _ _ => rfl)) pe_int))
      (pss_cons (ps_set (i := 5) scDraw.nd rfl (.inl rfl) (pe_op op_mod (pe_op op_add (pe_op op_add (pe_op op_mul (pv 4) (pe_op op_add pe_int (pe_op op_mul pe_int (pv 3)))) (pe_op op_mul (pe_op op_mul pe_int (pv 3)) (pv 3))) pe_int) pe_int))
      (pss_one (ps_ret (pe_op op_mod (pe_op op_fdiv (pe_op op_mod (pe_op op_mul (pv 5) (pv 5)) pe_int) pe_int) (pv 1)))))))), ?_⟩
    refine ⟨fun c σ H1 => Kp (Av s a) H H1 ∧ Sm H1 s a b n ∧ (∃ y2, σ = [some (.ref s), some (.int m), y2, none, none, none]) ∧ ∃ bigs : List Int, H1 a = some (.lst (bigs.map V.int)) ∧ bigs.length = c, ?_, fun c σ H1 hw => ?_⟩
    · obtain ⟨⟨t, bigs, cells, hS, hA, _⟩, _⟩ := id sm
      exact ⟨_, Kp.refl _, sm, ⟨none, rfl⟩, bigs, hA, rfl⟩
    obtain ⟨kp, ⟨⟨t, bigs, cells, hS, hA, hB, bp, cp, cn, cl, bl, t0, tn⟩, sa, sb, ab⟩, ⟨y2, rfl⟩, bigs', hA', hc⟩ := hw
    have eb : bigs' = bigs := by
      have z := hA'.symm.trans hA
      have z2 : bigs'.map V.int = bigs.map V.int := HO.lst.inj (Option.some.inj z)
      exact (List.map_inj_right (fun x y e => V.int.inj e)).mp z2
    subst eb
    -- while _law_stream_here[0] != []
    refine ⟨.ref s, rfl, s, _, 0, .ref a, rfl, rfl, .inl (.inl hS), rfl, Nat.zero_le _, fun p np => ?_⟩
    have s1 : Same H1 (upd H1 p (.lst [])) := same_upd np
    refine ⟨.list (bigs'.map PyData.int), .list [], .lst (.inl (.inl (s1 _ _ hA))) (dpAll_ints _), .lst (.inl (.inl upd_same)) .nil, PySem.W.ke_shaped_ints _, by decide +kernel, _, rfl, ?_⟩
    have k1 : Kp (Av s a) H (upd H1 p (.lst [])) := kp.trans (Kp.of_same s1)
    rw [eqv_nil]
    cases bigs' with
    | cons x r =>
      refine iteT ?_
      have x0 : 0 ≤ x := bp x List.mem_cons_self
      refine ⟨fun σ' H' => Kp (Av s a) H H' ∧ Sm H' s a b n ∧ (∃ y2, σ' = [some (.ref s), some (.int m), y2, none, none, none]) ∧ H' a = some (.lst (r.map V.int)), fun σ' H' z => ⟨r.length, by rw [← hc]; exact Nat.lt_succ_self _, z.1, z.2.1, z.2.2.1, r, z.2.2.2, rfl⟩, ?_⟩
      -- _law_rest = _law_stream_here[0][0]
      refine ⟨.ref s, rfl, s, _, 0, .ref a, rfl, rfl, .inl (.inl (s1 _ _ hS)), rfl, a, _, 0, .int x, rfl, rfl, .inl (.inl (s1 _ _ hA)), at_of (j := 0) rfl rfl, ?_⟩
      -- if _law_rest > 0
      refine ⟨.int x, rfl, x, 0, rfl, rfl, _, rfl, ite2 (fun e => ?_) (fun e => ?_)⟩
      · have e' : 0 < x := of_decide_eq_true e
        refine ⟨.int x, rfl, .int m, rfl, x, m, rfl, rfl, ⟨m0, by omega⟩, .ref s, rfl, s, _, 0, .ref a, rfl, rfl, .inl (.inl (s1 _ _ hS)), rfl, a, _, 0, 0, rfl, rfl, s1 _ _ hA, ixN_cons, ?_⟩
        refine ⟨.int x, rfl, .int m, rfl, x, m, rfl, rfl, m0, ?_⟩
        refine q _ _ (fun z o hz nz => ?_) ?_ (Int.emod_nonneg _ (by omega)) (Int.emod_lt_of_pos _ m0)
        · rw [upd_ne (fun e => nz (.inr e))]
          exact k1 z o hz nz
        · refine ⟨⟨t, (x / m) :: r, cells, ?_, ?_, ?_, ?_, cp, cn, cl, bl, t0, by omega⟩, sa, sb, ab⟩
          · rw [upd_ne sa]
            exact s1 _ _ hS
          · rw [upd_same]
            rfl
          · rw [upd_ne (Ne.symm ab)]
            exact s1 _ _ hB
          · intro c hc
            rcases List.mem_cons.mp hc with rfl | hc
            · exact Int.ediv_nonneg x0 (by omega)
            · exact bp c (List.mem_cons_of_mem _ hc)
      · -- _law_stream_here[0].pop(0)
        refine ⟨.ref s, rfl, s, _, 0, .ref a, rfl, rfl, .inl (.inl (s1 _ _ hS)), rfl, .inl ⟨rfl, _, .inl (.inl (s1 _ _ hA))⟩, a, _, 0, 0, .int x, rfl, rfl, s1 _ _ hA, by decide, by decide, (ixN_seq ixN_cons).1, rfl, ?_⟩
        refine ⟨fun z o hz nz => ?_, ⟨⟨t, r, cells, ?_, ?_, ?_, fun c hc => bp c (List.mem_cons_of_mem _ hc), cp, cn, cl, Nat.le_of_succ_le bl, t0, tn⟩, sa, sb, ab⟩, ⟨_, rfl⟩, ?_⟩
        · rw [upd_ne (fun e => nz (.inr e))]
          exact k1 z o hz nz
        · rw [upd_ne sa]
          exact s1 _ _ hS
        · rw [upd_same]
          rfl
        · rw [upd_ne (Ne.symm ab)]
          exact s1 _ _ hB
        · rw [upd_same]
          rfl
    | nil =>
      refine iteF ?_
      -- _law_turn = _law_stream_here[2] + 1
      refine ⟨.ref s, rfl, s, _, 2, .int t, rfl, rfl, .inl (.inl (s1 _ _ hS)), rfl, t, 1, rfl, rfl, ?_⟩
      -- _law_stream_here[2] = _law_turn
      refine ⟨.int (t + 1), rfl, .ref s, rfl, s, _, 2, 2, rfl, rfl, s1 _ _ hS, rfl, ?_⟩
      have gS : (upd (upd H1 p (.lst [])) s (.lst [.ref a, .ref b, .int (t + 1)])) s = some (.lst [.ref a, .ref b, .int (t + 1)]) := upd_same
      have gB : (upd (upd H1 p (.lst [])) s (.lst [.ref a, .ref b, .int (t + 1)])) b = some (.lst (cells.map V.int)) := by
        rw [upd_ne (Ne.symm sb)]
        exact s1 _ _ hB
      have gA : (upd (upd H1 p (.lst [])) s (.lst [.ref a, .ref b, .int (t + 1)])) a = some (.lst (([] : List Int).map V.int)) := by
        rw [upd_ne (Ne.symm sa)]
        exact s1 _ _ hA
      have lpos : 0 < cells.length := List.length_pos_iff.mpr cn
      have ml1 : (0 : Int) < ((cells.map V.int).length : Int) := by rw [List.length_map]; omega
      obtain ⟨j, hj, hj2⟩ : ∃ j : Nat, (t + 1) % ((cells.map V.int).length : Int) = (j : Int) ∧ j < cells.length := by
        refine ⟨((t + 1) % ((cells.map V.int).length : Int)).toNat, ?_, ?_⟩
        · rw [Int.toNat_of_nonneg (Int.emod_nonneg _ (by omega))]
        · have z := Int.emod_lt_of_pos (t + 1) ml1
          rw [List.length_map] at z ⊢
          have z0 : 0 ≤ (t + 1) % (cells.length : Int) := Int.emod_nonneg _ (by omega)
          omega
      have gj : (cells.map V.int)[j]? = some (.int cells[j]) := by
        rw [List.getElem?_map, List.getElem?_eq_getElem hj2]
        rfl
      -- _law_cell
      refine ⟨.ref s, rfl, s, _, 1, .ref b, rfl, rfl, .inl (.inl gS), rfl, .int (t + 1), rfl, .ref s, rfl, s, _, 1, .ref b, rfl, rfl, .inl (.inl gS), rfl, b, _, rfl, .inl (.inl (.inl gB)), t + 1, _, rfl, rfl, ml1,
        b, _, _, .int cells[j], rfl, rfl, .inl (.inl gB), at_of hj gj, cells[j], 2147483587, rfl, rfl, by show (0 : Int) < 2147483587; decide, ?_⟩
      have c0 : 0 ≤ cells[j] % 2147483587 := Int.emod_nonneg _ (by decide)
      have c1 : cells[j] % 2147483587 < 2147483587 := Int.emod_lt_of_pos _ (by decide)
      -- _law_mixed
      refine ⟨_, rfl, _, rfl, 48271, t + 1, rfl, rfl, .inl ⟨by decide, by decide⟩, 40692, _, rfl, rfl, _, _, rfl, rfl, .inl ⟨by omega, by omega⟩, _, rfl, 69621, t + 1, rfl, rfl, .inl ⟨by decide, by decide⟩, _, rfl, _, t + 1, rfl, rfl, .inr ⟨by omega, by omega⟩, _, _, rfl, rfl, _, 23, rfl, rfl, _, 2147483647, rfl, rfl, by show (0 : Int) < 2147483647; decide, ?_⟩
      refine ⟨_, rfl, _, rfl, _, _, rfl, rfl, .inl ⟨?_, ?_⟩, _, 2147483629, rfl, rfl, by show (0 : Int) < 2147483629; decide, _, 16, rfl, rfl, ⟨by decide, by decide⟩, .int m, rfl, _, m, rfl, rfl, m0, ?_⟩
      · exact Int.lt_of_lt_of_le (by decide) (Int.emod_nonneg _ (by decide))
      · exact Int.lt_trans (Int.emod_lt_of_pos _ (by decide)) (by decide)
      · refine q _ _ (fun z o hz nz => ?_) ?_ (Int.emod_nonneg _ (by omega)) (Int.emod_lt_of_pos _ m0)
        · show (upd (upd H1 p (.lst [])) s (.lst [.ref a, .ref b, .int (t + 1)])) z = some o
          rw [upd_ne (fun e => nz (.inl e))]
          exact k1 z o hz nz
        · exact ⟨⟨t + 1, [], cells, gS, gA, gB, bp, cp, cn, cl, bl, by omega, by omega⟩, sa, sb, ab⟩
end
end Lw
namespace Lw
open PySem PySem.Spec PyProof.Rows L2 Gd
theorem scStream : FnScope ["_law_script", "_law_cells", "_law_cell"] ["_law_script"] (defScope sStream) := ⟨rfl, rfl, rfl, by decide +kernel, rfl, by decide +kernel, by decide +kernel⟩
def absI (i : Int) : Int := if i < 0 then -i else i
theorem absI_nn (i : Int) : 0 ≤ absI i := by unfold absI; split <;> omega
theorem getm {α : Type} {ns : List Int} {f : Int → α} {i : Nat} {x : α} (h : (ns.map f)[i]? = some x) : ∃ n, ns[i]? = some n ∧ x = f n := by
  rw [List.getElem?_map] at h
  cases e : ns[i]? with
  | none => rw [e] at h; cases h
  | some n => rw [e] at h; exact ⟨n, rfl, (Option.some.inj h).symm⟩
theorem small_of {n : Nat} (h : n ≤ 100000) : n < sizeLine := Nat.lt_of_le_of_lt h (by decide)
def spStream (K : PySem.W.Frag) : Sp := fun vs H Q _ => ∃ (sc : Addr) (ns : List Int), vs = [.ref sc] ∧ SqL K H sc (ns.map V.int) ∧ ns.length ≤ 63 ∧
  ∀ H' s a b, Same H H' → H s = none → H a = none → H b = none → Sm H' s a b 0 → Q (.ref s) H'
section
variable {P : Program} {w : World} {K : PySem.W.Frag} {mg : Str → Option Value} {base : Heap}
theorem ok_stream {f : Addr} {fd : FuncData} {k : Nat} (F : Fun K "_law_stream" "_law_stream" sStream f fd) (ml : mg "len" = none) (ma : mg "abs" = none) : FnOk P w K mg base CX0 (k + 1) f fd ["_law_script"] (spStream K) := by
  refine F.ok scStream (fun vs H Q E h => ?_) (fun cdv A outer st H vs Q E hr h => ?_)
  · obtain ⟨s, ns, rfl, _⟩ := h
    rfl
  · obtain ⟨sc, ns, rfl, hS, hl, q⟩ := h
    refine ⟨_, pss_cons (ps_setLc (i := 1) (own := [("_law_cell", 2)]) (g := gName 2) (tt := tYes) rfl scStream.nd rfl rfl (sw_true rfl rfl rfl (by decide +kernel)) (pi_list (pv 0))
        (blkOk_by (N := ["_law_script", "_law_cells", "_law_cell"]) (sc := defScope sStream) (by decide +kernel)) (fun _ _ _ _ _ => pg_name (i := 2) scStream.nd rfl (Or.inl rfl)) (fun _ _ _ _ _ => pts_nil)
        (fun _ _ _ _ _ => pe_callB call_abs (by rfl) ma (by decide +kernel) (pa_cons (pv 2) pa_nil)))
      (pss_one (ps_ret (pe_lst (pa_cons (pe_lc (own := [("_law_cell", 2)]) (g := gName 2) (by rfl) scStream.nd (pi_list (pv 1)) (blkOk_by (N := ["_law_script", "_law_cells", "_law_cell"]) (sc := defScope sStream) (by decide +kernel))
          (fun _ _ _ _ _ => pg_name (i := 2) scStream.nd rfl (Or.inl rfl)) (fun _ _ _ _ _ => pts_one (pt_cmpR op_ge (pv 2) (pe_op op_pow pe_int pe_int) (nomark _))) (fun _ _ _ _ _ => pv 2))
        (pa_cons (pe_op op_cat (pv 1) (pe_lst (pa_cons (pe_op op_add (pe_callB call_len_seq (by rfl) ml PySem.boot_len (pa_cons (pv 1) pa_nil)) pe_int) pa_nil))) (pa_cons pe_int pa_nil)))))), ?_⟩
    -- _law_cells
    refine ⟨.ref sc, rfl, sc, rfl, ⟨_, hS⟩, fun D nD => lc_list (xs := ns.map V.int) (fun i H1 => Same H H1 ∧ H1 D = some (.lst ((ns.take i).map fun n => V.int (absI n)))) ⟨same_upd nD, upd_same⟩ (fun i H1 _ p => p.1.seq hS) (fun i x H1 hx p => ?_) (fun H1 p => ?_)⟩
    · obtain ⟨n, hn, rfl⟩ := getm hx
      obtain ⟨sm, hD⟩ := p
      refine ⟨rfl, .int n, rfl, n, rfl, _, hD, ?_, fun b o e => ?_, ?_⟩
      · rw [List.length_map, List.length_take]
        exact small_of (by omega)
      · rw [upd_ne (ne_of_none e nD)]
        exact sm _ _ e
      · rw [upd_same, List.take_add_one, hn, List.map_append]
        rfl
    · obtain ⟨sm1, hD1⟩ := p
      rw [List.length_map, List.take_length] at hD1
      have hD1' : H1 D = some (.lst ((ns.map absI).map V.int)) := by
        rw [hD1, List.map_map]
        rfl
      -- the large cells
      refine ⟨.ref D, rfl, D, rfl, ⟨_, .inl (.inl hD1')⟩, fun A1 nA => lc_list (xs := (ns.map absI).map V.int) (fun i H2 => Same H1 H2 ∧ ∃ bs : List Int, H2 A1 = some (.lst (bs.map V.int)) ∧ bs.length ≤ i ∧ ∀ c ∈ bs, 0 ≤ c) ⟨same_upd nA, [], upd_same, Nat.le_refl _, fun _ z => nomatch z⟩ (fun i H2 _ p => .inl (.inl (p.1 _ _ hD1'))) (fun i x H2 hx p => ?_) (fun H2 p => ?_)⟩
      · obtain ⟨m, hm, rfl⟩ := getm hx
        obtain ⟨n, hn, rfl⟩ := getm hm
        obtain ⟨sm2, bs, hA, lb, pb⟩ := p
        refine ⟨rfl, .int (absI n), rfl, 10, 18, rfl, rfl, ⟨by decide, by decide, by decide⟩, absI n, _, rfl, rfl, _, rfl, ite2 (fun e => ?_) (fun e => ?_)⟩
        · have hi : i < ns.length := (List.getElem?_eq_some_iff.mp hn).1
          refine ⟨.int (absI n), rfl, _, hA, by rw [List.length_map]; exact small_of (by omega), fun b o e => ?_, bs ++ [absI n], ?_, ?_, fun c hc => ?_⟩
          · rw [upd_ne (ne_of_none e nA)]
            exact sm2 _ _ e
          · rw [upd_same, List.map_append]
            rfl
          · rw [List.length_append]
            exact Nat.add_le_add_right lb 1
          · rcases List.mem_append.mp hc with hc | hc
            · exact pb c hc
            · rw [List.mem_singleton.mp hc]
              exact absI_nn n
        · exact ⟨sm2, bs, hA, by omega, pb⟩
      · obtain ⟨sm2, bs, hA, lb, pb⟩ := p
        have lb' : bs.length ≤ 63 := by
          rw [List.length_map, List.length_map] at lb
          omega
        have hD2 := sm2 _ _ hD1'
        -- _law_cells + [len(_law_cells) + 19]
        refine ⟨.ref D, rfl, .ref D, rfl, D, _, rfl, .inl (.inl (.inl hD2)), _, 19, rfl, rfl, by show 1 ≤ sizeLine; decide, fun p1 n1 => ?_⟩
        have s3 := same_upd (o := .lst [.int (((ns.map absI).map V.int).length + 19)]) n1
        refine ⟨D, p1, _, _, rfl, rfl, s3 _ _ hD2, upd_same, ?_, fun B nB => ?_⟩
        · rw [List.length_map, List.length_map]
          exact Nat.le_of_lt (small_of (by show ns.length + 1 ≤ 100000; omega))
        · have s4 := same_upd (o := .lst ((ns.map absI).map V.int ++ [.int (((ns.map absI).map V.int).length + 19)])) nB
          refine ⟨by show 3 ≤ sizeLine; decide, fun s nS => ?_⟩
          have s5 := same_upd (o := .lst [.ref A1, .ref B, .int 0]) nS
          have all := sm1.trans (sm2.trans (s3.trans (s4.trans s5)))
          have g3 := s3 _ _ hA
          have g4 := s4 _ _ g3
          have gB : (upd (upd (upd H2 p1 (.lst [.int (((ns.map absI).map V.int).length + 19)])) B (.lst ((ns.map absI).map V.int ++ [.int (((ns.map absI).map V.int).length + 19)]))) s (.lst [.ref A1, .ref B, .int 0])) B = _ := s5 _ _ upd_same
          refine q _ s A1 B all ((sm1.trans (sm2.trans (s3.trans s4))).free nS) (sm1.free nA) ((sm1.trans (sm2.trans s3)).free nB) ⟨⟨0, bs, ns.map absI ++ [((ns.length : Int) + 19)], upd_same, s5 _ _ g4, ?_, pb, fun c hc => ?_, by simp, ?_, lb', Int.le_refl _, Int.le_refl _⟩, ?_, ?_, ?_⟩
          · rw [gB, List.map_append, List.length_map, List.length_map]
            rfl
          · rcases List.mem_append.mp hc with hc | hc
            · obtain ⟨n, _, rfl⟩ := List.mem_map.mp hc
              exact absI_nn n
            · rw [List.mem_singleton.mp hc]
              omega
          · rw [List.length_append, List.length_map]
            show ns.length + 1 ≤ 64
            omega
          · exact fun e => (ne_of_none g4 nS) e.symm
          · exact fun e => (ne_of_none (H := upd (upd H2 p1 _) B _) upd_same nS) e.symm
          · exact ne_of_none g3 nB
end
end Lw
namespace Lw
open PySem PySem.Spec PyProof.Rows L2 Gd
abbrev sOdd : Stmt := topS 14
theorem scOdd : FnScope ["_law_stream_here", "_law_some"] ["_law_stream_here"] (defScope sOdd) := ⟨rfl, rfl, rfl, by decide +kernel, rfl, by decide +kernel, by decide +kernel⟩
/-- a small piece of data -/
structure Small (k : Nat) (d : PyData) : Prop where
  sh : d.showable = true
  lv : d.leavesShort 100 = true
  wt : d.weight ≤ k
  dp : d.depth ≤ 1
def It (av : Addr → Prop) (H : Hp) (v : V) : Prop := ∃ d, Dv av H v d ∧ Small 200 d
theorem It.keep {av : Addr → Prop} {H H' : Hp} {v : V} (x : It av H v) (k : Kp av H H') : It av H' v := by
  obtain ⟨d, h, s⟩ := x
  exact ⟨d, h.keep k, s⟩
theorem len_int {i : Int} (h : i.natAbs < 10 ^ 30) : (Str.ofString (toString i)).length ≤ 100 := by
  have e := int_text_length_le10 (k := 30) (by decide) h
  rw [PySem.ofString_length]
  omega
theorem It.int {av : Addr → Prop} {H : Hp} {i : Int} (h : i.natAbs < 10 ^ 30) : It av H (.int i) := by
  have e : i.natAbs.log2 < 100 := by
    by_cases z : i.natAbs = 0
    · rw [z]
      decide
    · exact (Nat.log2_lt z).mpr (Nat.lt_of_lt_of_le h (by decide))
  refine ⟨.int i, .int i, ?_, ?_, ?_, ?_⟩
  · rw [PyData.showable]
    exact decide_eq_true (by omega)
  · rw [PyData.leavesShort]
    refine decide_eq_true ?_
    rw [PyData.shown_int]
    exact len_int h
  · rw [PyData.weight]
    split <;> omega
  · rw [PyData.depth]
    omega
def oddAll (p1 p2 p3 p4 p5 p6 p7 p8 p9 p10 : Addr) : List V := [.non, .bl true, .bl false, .int (-1), .int 0, .int 1, .int 2, .int 11, .int 12, .int 13, .int (10 ^ (29 : Int).toNat), .str "", .str "0", .ref p1, .ref p2, .ref p3, .ref p4, .ref p5, .ref p6, .ref p7] ++ [.ref p8, .ref p9, .str "a", .ref p10]
theorem paired_ix {α β : Type} {R : α → β → Prop} {xs : List α} {ds : List β} (h : Paired R xs ds) : ∀ (i : Nat) (x : α) (d : β), xs[i]? = some x → ds[i]? = some d → R x d := by
  induction h with
  | nil => intro i x d h1 h2; simp at h1
  | cons r _ ih =>
    intro i x d h1 h2
    cases i with
    | zero =>
      cases h1
      cases h2
      exact r
    | succ i => exact ih i x d h1 h2
theorem It.tup {av : Addr → Prop} {H : Hp} {p : Addr} {xs : List V} {ds : List PyData} (e : H p = some (.tup xs)) (n : ¬ av p) (h : Paired (Dv av H) xs ds) (s : Small 200 (.tuple ds)) : It av H (.ref p) :=
  ⟨_, .tup e n (Paired.length h) (paired_ix h), s⟩
theorem It.lst {av : Addr → Prop} {H : Hp} {p : Addr} {xs : List V} {ds : List PyData} (e : H p = some (.lst xs)) (n : ¬ av p) (h : Paired (Dv av H) xs ds) (s : Small 200 (.list ds)) : It av H (.ref p) :=
  ⟨_, .lst e n (Paired.length h) (paired_ix h), s⟩
def spOdd : Sp := fun vs H Q _ => ∃ (s a b : Addr) (n : Nat), vs = [.ref s] ∧ Sm H s a b n ∧ n < 1000000 ∧
  ∀ H' v, Kp (Av s a) H H' → Sm H' s a b (n + 1) → It (Av s a) H' v → Q v H'
section
variable {P : Program} {w : World} {K : PySem.W.Frag} {mg : Str → Option Value} {base : Heap}
theorem ok_odd {f fD : Addr} {fd fdD : FuncData} {k : Nat} (F : Fun K "_law_odd" "_law_odd" sOdd f fd) (GD : FnOk P w K mg base CX0 k fD fdD ["_law_stream_here", "_law_many"] spDraw) (FD : Fun K "_law_draw" "_law_draw" sDraw fD fdD)
    (bD : Binds K fdD ["_law_stream_here", "_law_many"] []) (gD : mg "_law_draw" = some (.ref fD)) : FnOk P w K mg base CX0 (k + 1) f fd ["_law_stream_here"] spOdd := by
  refine F.ok scOdd (fun vs H Q E h => ?_) (fun cdv A outer st H vs Q E hr h => ?_)
  · obtain ⟨s, a, b, n, rfl, _⟩ := h
    rfl
  · obtain ⟨s, a, b, n, rfl, sm, hn, q⟩ := h
    refine ⟨_, pss_cons (ps_set (i := 1) scOdd.nd rfl (.inl rfl) (pe_lst
        (pa_cons pe_non (pa_cons pe_bl (pa_cons pe_bl (pa_cons (pe_un un_neg pe_int) (pa_cons pe_int (pa_cons pe_int (pa_cons pe_int (pa_cons pe_int (pa_cons pe_int (pa_cons pe_int (pa_cons (pe_op op_pow pe_int pe_int)
        (pa_cons pe_str (pa_cons pe_str (pa_cons (pe_tup pa_nil) (pa_cons (pe_lst pa_nil) (pa_cons pe_dnewK (pa_cons (pe_tup (pa_cons pe_int pa_nil)) (pa_cons (pe_lst (pa_cons pe_int pa_nil)) (pa_cons (pe_tup (pa_cons pe_bl pa_nil))
        (pa_cons (pe_tup (pa_cons pe_int (pa_cons pe_int pa_nil))) pa_nil))))))))))))))))))))))
      (pss_one (ps_ret (pe_ix ix_list (pe_op op_cat (pv 1) (pe_lst (pa_cons (pe_tup (pa_cons pe_int (pa_cons pe_int (pa_cons pe_int pa_nil)))) (pa_cons (pe_disp (pps_cons pe_str pe_int pps_nil) (by rfl) (by rfl) (fun z => by cases z) (by decide))
          (pa_cons pe_str (pa_cons (pe_tup (pa_cons pe_non pa_nil)) pa_nil))))))
        (pe_call GD hr (by rfl) gD FD.kp bD .nil pass0 (pa_cons (pv 0) (pa_cons pe_int pa_nil))) (fun _ _ => rfl)))), ?_⟩
    have hs0 : H s = some _ := sm.ex.choose_spec.choose_spec.choose_spec.1
    have one : (1 : Nat) ≤ sizeLine := by decide
    refine ⟨1, rfl, 10, 29, rfl, rfl, ⟨by decide, by decide, by decide⟩, Nat.zero_le _, fun p1 n1 => ⟨Nat.zero_le _, fun p2 n2 => fun p3 n3 => ⟨one, fun p4 n4 => ⟨one, fun p5 n5 => ⟨one, fun p6 n6 => ⟨by show 2 ≤ sizeLine; decide, fun p7 n7 => ⟨by show 20 ≤ sizeLine; decide, fun l1 m1 => ?_⟩⟩⟩⟩⟩⟩⟩
    have s1 : Same H (upd H p1 (.tup [])) := same_upd n1
    have e1 : (upd H p1 (.tup [])) p1 = some (.tup []) := upd_same
    generalize upd H p1 (.tup []) = G1 at *
    have s2 : Same G1 (upd G1 p2 (.lst [])) := same_upd n2
    have e2 : (upd G1 p2 (.lst [])) p2 = some (.lst []) := upd_same
    generalize upd G1 p2 (.lst []) = G2 at *
    have s3 : Same G2 (upd G2 p3 (.dK [])) := same_upd n3
    have e3 : (upd G2 p3 (.dK [])) p3 = some (.dK []) := upd_same
    generalize upd G2 p3 (.dK []) = G3 at *
    have s4 : Same G3 (upd G3 p4 (.tup [.int 0])) := same_upd n4
    have e4 : (upd G3 p4 (.tup [.int 0])) p4 = some (.tup [.int 0]) := upd_same
    generalize upd G3 p4 (.tup [.int 0]) = G4 at *
    have s5 : Same G4 (upd G4 p5 (.lst [.int 0])) := same_upd n5
    have e5 : (upd G4 p5 (.lst [.int 0])) p5 = some (.lst [.int 0]) := upd_same
    generalize upd G4 p5 (.lst [.int 0]) = G5 at *
    have s6 : Same G5 (upd G5 p6 (.tup [.bl true])) := same_upd n6
    have e6 : (upd G5 p6 (.tup [.bl true])) p6 = some (.tup [.bl true]) := upd_same
    generalize upd G5 p6 (.tup [.bl true]) = G6 at *
    have s7 : Same G6 (upd G6 p7 (.tup [.int 0, .int 1])) := same_upd n7
    have e7 : (upd G6 p7 (.tup [.int 0, .int 1])) p7 = some (.tup [.int 0, .int 1]) := upd_same
    generalize upd G6 p7 (.tup [.int 0, .int 1]) = G7 at *
    have s8 : Same G7 (upd G7 l1 (.lst [.non, .bl true, .bl false, .int (-1), .int 0, .int 1, .int 2, .int 11, .int 12, .int 13, .int (10 ^ (29 : Int).toNat), .str "", .str "0", .ref p1, .ref p2, .ref p3, .ref p4, .ref p5, .ref p6, .ref p7])) := same_upd m1
    have e8 : (upd G7 l1 (.lst [.non, .bl true, .bl false, .int (-1), .int 0, .int 1, .int 2, .int 11, .int 12, .int 13, .int (10 ^ (29 : Int).toNat), .str "", .str "0", .ref p1, .ref p2, .ref p3, .ref p4, .ref p5, .ref p6, .ref p7])) l1 = some (.lst [.non, .bl true, .bl false, .int (-1), .int 0, .int 1, .int 2, .int 11, .int 12, .int 13, .int (10 ^ (29 : Int).toNat), .str "", .str "0", .ref p1, .ref p2, .ref p3, .ref p4, .ref p5, .ref p6, .ref p7]) := upd_same
    refine ⟨.ref l1, rfl, ?_⟩
    show tLst _ _ (upd G7 l1 (.lst [.non, .bl true, .bl false, .int (-1), .int 0, .int 1, .int 2, .int 11, .int 12, .int 13, .int (10 ^ (29 : Int).toNat), .str "", .str "0", .ref p1, .ref p2, .ref p3, .ref p4, .ref p5, .ref p6, .ref p7])) _
    generalize upd G7 l1 (.lst [.non, .bl true, .bl false, .int (-1), .int 0, .int 1, .int 2, .int 11, .int 12, .int 13, .int (10 ^ (29 : Int).toNat), .str "", .str "0", .ref p1, .ref p2, .ref p3, .ref p4, .ref p5, .ref p6, .ref p7]) = G8 at *
    refine ⟨by show 3 ≤ sizeLine; decide, fun p8 n8 => fun p9 n9 => ?_⟩
    have s9 : Same G8 (upd G8 p8 (.tup [.int 0, .int 0, .int 0])) := same_upd n8
    have e9 : (upd G8 p8 (.tup [.int 0, .int 0, .int 0])) p8 = some (.tup [.int 0, .int 0, .int 0]) := upd_same
    generalize upd G8 p8 (.tup [.int 0, .int 0, .int 0]) = G9 at *
    refine ⟨upd_same, [(Sum.inr "a", .int 1)], rfl, by decide, one, fun p10 n10 => ⟨by show 4 ≤ sizeLine; decide, fun l2 m2 => ?_⟩⟩
    have ec : upd (upd G9 p9 (.dK [])) p9 (.dK (mergeK [] [(Sum.inr "a", .int 1)])) = upd G9 p9 (.dK [(Sum.inr "a", .int 1)]) := by
      rw [upd_upd]
      rfl
    rw [ec] at n10 m2
    rw [ec]
    have s10 : Same G9 (upd G9 p9 (.dK [(Sum.inr "a", .int 1)])) := same_upd n9
    have e10 : (upd G9 p9 (.dK [(Sum.inr "a", .int 1)])) p9 = some (.dK [(Sum.inr "a", .int 1)]) := upd_same
    generalize upd G9 p9 (.dK [(Sum.inr "a", .int 1)]) = G10 at *
    have s11 : Same G10 (upd G10 p10 (.tup [.non])) := same_upd n10
    have e11 : (upd G10 p10 (.tup [.non])) p10 = some (.tup [.non]) := upd_same
    generalize upd G10 p10 (.tup [.non]) = G11 at *
    have s12 : Same G11 (upd G11 l2 (.lst [.ref p8, .ref p9, .str "a", .ref p10])) := same_upd m2
    have e12 : (upd G11 l2 (.lst [.ref p8, .ref p9, .str "a", .ref p10])) l2 = some (.lst [.ref p8, .ref p9, .str "a", .ref p10]) := upd_same
    generalize upd G11 l2 (.lst [.ref p8, .ref p9, .str "a", .ref p10]) = G12 at *
    have t11 := s12
    have t10 := s11.trans t11
    have t9 := s10.trans t10
    have t8 := s9.trans t9
    have t7 := s8.trans t8
    have t6 := s7.trans t7
    have t5 := s6.trans t6
    have t4 := s5.trans t5
    have t3 := s4.trans t4
    have t2 := s3.trans t3
    have t1 := s2.trans t2
    have t0 := s1.trans t1
    refine ⟨l1, l2, _, _, rfl, rfl, t8 _ _ e8, e12, by show 24 ≤ sizeLine; decide, fun l3 m3 => ?_⟩
    have s13 := same_upd (o := .lst (oddAll p1 p2 p3 p4 p5 p6 p7 p8 p9 p10)) m3
    have av : ∀ {p : Addr}, H p = none → ¬ Av s a p := fun {p} z y => by
      obtain ⟨⟨_, _, _, z1, z2, _⟩, _⟩ := id sm
      rcases y with y | y
      · rw [y, z1] at z
        cases z
      · rw [y, z2] at z
        cases z
    refine ⟨.ref s, rfl, s, a, b, n, 24, rfl, (sm.keep t0).keep s13, hn, by decide, by decide, fun H' r kp sm2 r0 r1 => ?_⟩
    have kall : Kp (Av s a) G12 H' := (Kp.of_same s13).trans kp
    have hl3 : H' l3 = some (.lst (oddAll p1 p2 p3 p4 p5 p6 p7 p8 p9 p10)) := kp _ _ upd_same (av (t0.free m3))
    obtain ⟨j, rfl⟩ : ∃ j : Nat, r = (j : Int) := ⟨r.toNat, by omega⟩
    have hj : j < 24 := by omega
    refine ⟨l3, _, _, (oddAll p1 p2 p3 p4 p5 p6 p7 p8 p9 p10).getD j .non, rfl, rfl, .inl (.inl hl3), atI_nat ?_, q H' _ ((Kp.of_same t0).trans kall) sm2 ?_⟩
    · rw [List.getD_eq_getElem?_getD, List.getElem?_eq_getElem (by show j < 24; exact hj)]
      rfl
    · have f1 := kall _ _ (t1 _ _ e1) (av n1)
      have f2 := kall _ _ (t2 _ _ e2) (av (s1.free n2))
      have f3 := kall _ _ (t3 _ _ e3) (av ((s1.trans s2).free n3))
      have f4 := kall _ _ (t4 _ _ e4) (av ((s1.trans (s2.trans s3)).free n4))
      have f5 := kall _ _ (t5 _ _ e5) (av ((s1.trans (s2.trans (s3.trans s4))).free n5))
      have f6 := kall _ _ (t6 _ _ e6) (av ((s1.trans (s2.trans (s3.trans (s4.trans s5)))).free n6))
      have f7 := kall _ _ (t7 _ _ e7) (av ((s1.trans (s2.trans (s3.trans (s4.trans (s5.trans s6))))).free n7))
      have c8 := s1.trans (s2.trans (s3.trans (s4.trans (s5.trans (s6.trans (s7.trans s8))))))
      have f8 := kall _ _ (t9 _ _ e9) (av (c8.free n8))
      have f9 := kall _ _ (t10 _ _ e10) (av ((c8.trans s9).free n9))
      have f10 := kall _ _ (t11 _ _ e11) (av ((c8.trans (s9.trans s10)).free n10))
      have all : ∀ v ∈ oddAll p1 p2 p3 p4 p5 p6 p7 p8 p9 p10, It (Av s a) H' v := by
        intro v hv
        simp only [oddAll, List.mem_append, List.mem_cons, List.not_mem_nil, or_false] at hv
        rcases hv with (rfl | rfl | rfl | rfl | rfl | rfl | rfl | rfl | rfl | rfl | rfl | rfl | rfl | rfl | rfl | rfl | rfl | rfl | rfl | rfl) | (rfl | rfl | rfl | rfl)
        · exact ⟨_, .non, ⟨rfl, rfl, by decide, by decide⟩⟩
        · exact ⟨_, .bl _, ⟨rfl, rfl, by decide, by decide⟩⟩
        · exact ⟨_, .bl _, ⟨rfl, rfl, by decide, by decide⟩⟩
        · exact It.int (by decide)
        · exact It.int (by decide)
        · exact It.int (by decide)
        · exact It.int (by decide)
        · exact It.int (by decide)
        · exact It.int (by decide)
        · exact It.int (by decide)
        · exact It.int (by decide)
        · exact ⟨_, .str _, ⟨rfl, by decide +kernel, by decide +kernel, by decide⟩⟩
        · exact ⟨_, .str _, ⟨rfl, by decide +kernel, by decide +kernel, by decide⟩⟩
        · exact It.tup f1 (av n1) .nil ⟨by decide +kernel, by decide +kernel, by decide +kernel, by decide +kernel⟩
        · exact It.lst f2 (av (s1.free n2)) .nil ⟨by decide +kernel, by decide +kernel, by decide +kernel, by decide +kernel⟩
        · exact ⟨_, .dct f3 (av ((s1.trans s2).free n3)) (fun _ z => nomatch z), ⟨by decide +kernel, by decide +kernel, by decide +kernel, by decide +kernel⟩⟩
        · exact It.tup f4 (av ((s1.trans (s2.trans s3)).free n4)) (.cons (.int 0) .nil) ⟨by decide +kernel, by decide +kernel, by decide +kernel, by decide +kernel⟩
        · exact It.lst f5 (av ((s1.trans (s2.trans (s3.trans s4))).free n5)) (.cons (.int 0) .nil) ⟨by decide +kernel, by decide +kernel, by decide +kernel, by decide +kernel⟩
        · exact It.tup f6 (av ((s1.trans (s2.trans (s3.trans (s4.trans s5)))).free n6)) (.cons (.bl true) .nil) ⟨by decide +kernel, by decide +kernel, by decide +kernel, by decide +kernel⟩
        · exact It.tup f7 (av ((s1.trans (s2.trans (s3.trans (s4.trans (s5.trans s6))))).free n7)) (.cons (.int 0) (.cons (.int 1) .nil)) ⟨by decide +kernel, by decide +kernel, by decide +kernel, by decide +kernel⟩
        · exact It.tup f8 (av (c8.free n8)) (.cons (.int 0) (.cons (.int 0) (.cons (.int 0) .nil))) ⟨by decide +kernel, by decide +kernel, by decide +kernel, by decide +kernel⟩
        · exact ⟨_, .dct f9 (av ((c8.trans s9).free n9)) (fun p z => by rw [List.mem_singleton.mp z]; rfl), ⟨by decide +kernel, by decide +kernel, by decide +kernel, by decide +kernel⟩⟩
        · exact ⟨_, .str _, ⟨rfl, by decide +kernel, by decide +kernel, by decide⟩⟩
        · exact It.tup f10 (av ((c8.trans (s9.trans s10)).free n10)) (.cons .non .nil) ⟨by decide +kernel, by decide +kernel, by decide +kernel, by decide +kernel⟩
      refine all _ ?_
      rw [List.getD_eq_getElem?_getD, List.getElem?_eq_getElem (by show j < 24; exact hj)]
      exact List.getElem_mem _
end
end Lw
namespace Lw
open PySem PySem.Spec PyProof.Rows L2 Gd
abbrev sRow : Stmt := topS 15
abbrev rowN : List Str := ["_law_stream_here", "_law_most", "_law_size", "_law_way", "_law_width", "_law_entries", "_law_place", "_law_k", "_law_entry"]
theorem scRow : FnScope rowN ["_law_stream_here", "_law_most"] (defScope sRow) := ⟨rfl, rfl, rfl, by decide +kernel, rfl, by decide +kernel, by decide +kernel⟩
def spRow : Sp := fun vs H Q _ => ∃ (s a b : Addr) (n : Nat) (m : Int), vs = [.ref s, .int m] ∧ Sm H s a b n ∧ n < 900000 ∧ 1 ≤ m ∧ m ≤ 12 ∧
  ∀ H' p (ns : List Int), Kp (Av s a) H H' → Sm H' s a b (n + 50) → H' p = some (.tup (ns.map V.int)) → 1 ≤ ns.length → (ns.length : Int) ≤ m → (∀ x ∈ ns, -1000000000 ≤ x ∧ x ≤ 1000000000) → Q (.ref p) H'
theorem Sm.nav {H : Hp} {s a b p : Addr} {n : Nat} (x : Sm H s a b n) (z : H p = none) : ¬ Av s a p := fun y => by
  obtain ⟨⟨_, _, _, z1, z2, _⟩, _⟩ := id x
  rcases y with y | y
  · rw [y, z1] at z
    cases z
  · rw [y, z2] at z
    cases z
/-- a new list of drawn entries, so far -/
def PvE (s a b : Addr) (H0 : Hp) (D : Addr) (n0 i : Nat) (H1 : Hp) : Prop := Kp (Av s a) H0 H1 ∧ Sm H1 s a b (n0 + i) ∧ ∃ es : List Int, H1 D = some (.lst (es.map V.int)) ∧ es.length = i ∧ ∀ x ∈ es, -1000000000 ≤ x ∧ x ≤ 1000000000
theorem sm_upd {H : Hp} {s a b D : Addr} {n : Nat} {o : HO} (sm : Sm H s a b n) (h1 : D ≠ s) (h2 : D ≠ a) (h3 : D ≠ b) : Sm (upd H D o) s a b n := by
  obtain ⟨⟨t, bigs, cells, z1, z2, z3, r⟩, p1, p2, p3⟩ := sm
  exact ⟨⟨t, bigs, cells, by rw [upd_ne (Ne.symm h1)]; exact z1, by rw [upd_ne (Ne.symm h2)]; exact z2, by rw [upd_ne (Ne.symm h3)]; exact z3, r⟩, p1, p2, p3⟩
theorem Sm.off {H : Hp} {s a b p : Addr} {n : Nat} (x : Sm H s a b n) (z : H p = none) : p ≠ s ∧ p ≠ a ∧ p ≠ b := by
  obtain ⟨⟨_, _, _, z1, z2, z3, _⟩, _⟩ := id x
  exact ⟨fun y => (by rw [y, z1] at z; cases z), fun y => (by rw [y, z2] at z; cases z), fun y => (by rw [y, z3] at z; cases z)⟩
theorem pv_start {s a b D : Addr} {H1 : Hp} {n0 : Nat} (nD : H1 D = none) (sm : Sm H1 s a b n0) : PvE s a b H1 D n0 0 (upd H1 D (.lst [])) :=
  ⟨Kp.of_same (same_upd nD), sm.keep (same_upd nD), [], upd_same, rfl, fun _ z => nomatch z⟩
theorem pv_step {s a b D : Addr} {H1 H2 H' : Hp} {n0 i : Nat} {r : Int} (nD : H1 D = none) (sm : Sm H1 s a b n0) (hi : i < 1000) (p : PvE s a b H1 D n0 i H2) (kp : Kp (Av s a) H2 H') (sm' : Sm H' s a b (n0 + i + 1)) (r0 : -1000000000 ≤ r) (r1 : r ≤ 1000000000) :
    ∃ acc, H' D = some (.lst acc) ∧ acc.length < sizeLine ∧ PvE s a b H1 D n0 (i + 1) (upd H' D (.lst (acc ++ [.int r]))) := by
  obtain ⟨k2, _, es, hD, hl, hb⟩ := p
  have nav := sm.nav nD
  obtain ⟨o1, o2, o3⟩ := sm.off nD
  refine ⟨_, kp _ _ hD nav, by rw [List.length_map]; exact small_of (by omega), fun b' o z nz => ?_, sm_upd sm' o1 o2 o3, es ++ [r], ?_, ?_, fun x hx => ?_⟩
  · rw [upd_ne (ne_of_none z nD)]
    exact kp _ _ (k2 _ _ z nz) nz
  · rw [upd_same, List.map_append]
    rfl
  · rw [List.length_append, hl]
    rfl
  · rcases List.mem_append.mp hx with hx | hx
    · exact hb x hx
    · rw [List.mem_singleton.mp hx]
      exact ⟨r0, r1⟩
theorem wipe_back {σ : L2.St} {v : Nat} {x : Option V} : wipe ((wipe σ [v]).set v x) [v] = wipe σ [v] := by
  show ((σ.set v none).set v x).set v none = σ.set v none
  rw [List.set_set, List.set_set]
theorem lc_rows {s a b D : Addr} {n0 N v : Nat} {σ : L2.St} {H1 : Hp} {te : TE} {Qd : Hp → Prop} (nD : H1 D = none) (sm : Sm H1 s a b n0) (hN : N ≤ 1000)
    (he : ∀ (i : Nat) (H2 : Hp) (Q' : VK), i < N → Kp (Av s a) H1 H2 → Sm H2 s a b (n0 + i) → (∀ H' r, Kp (Av s a) H2 H' → Sm H' s a b (n0 + i + 1) → -1000000000 ≤ r → r ≤ 1000000000 → Q' (.int r) H') → te ((wipe σ [v]).set v (some (.int (0 + i)))) H2 Q')
    (hd : ∀ H3 (es : List Int), Kp (Av s a) H1 H3 → Sm H3 s a b (n0 + N) → H3 D = some (.lst (es.map V.int)) → es.length = N → (∀ x ∈ es, -1000000000 ≤ x ∧ x ≤ 1000000000) → Qd H3) :
    ∃ W : Nat → Nat → Hp → Prop, (∃ m, W 0 m (upd H1 D (.lst []))) ∧ ∀ i m H, W i m H →
      ((Itr 0 N).stop i H ∧ Qd H) ∨ ((Itr 0 N).go i H ∧ ∃ Nx : Hp → Prop, (∀ H', Nx H' → ∃ m', m' < m ∧ W (i + 1) m' H') ∧ ∀ x H', (Itr 0 N).yld i H x H' → gName v x (wipe σ [v]) H' fun σ2 H2 => wipe σ2 [v] = wipe σ [v] ∧ tYes σ2 H2 fun b H3 =>
        if b = true then te σ2 H3 fun y H4 => ∃ acc, H4 D = some (.lst acc) ∧ acc.length < sizeLine ∧ Nx (upd H4 D (.lst (acc ++ [y]))) else Nx H3) := by
  refine lc_range (PvE s a b H1 D n0) (pv_start nD sm) (fun i H2 hi p => ⟨wipe_back, ?_⟩) (fun H3 p => ?_)
  · refine iteT (B := PvE s a b H1 D n0 (i + 1) H2) (he i H2 _ hi p.1 p.2.1 fun H' r kp sm' r0 r1 => ?_)
    exact pv_step nD sm (by omega) p kp sm' r0 r1
  · obtain ⟨k3, sm3, es, hD, hl, hb⟩ := p
    exact hd H3 es k3 sm3 hD hl hb
theorem lc_rowsL {K : PySem.W.Frag} {s a b D L : Addr} {n0 v : Nat} {σ : L2.St} {H1 : Hp} {te : TE} {Qd : Hp → Prop} {xs : List Int} (nD : H1 D = none) (sm : Sm H1 s a b n0) (hN : xs.length ≤ 1000) (hL : H1 L = some (.lst (xs.map V.int))) (nL : ¬ Av s a L)
    (he : ∀ (i : Nat) (x : Int) (H2 : Hp) (Q' : VK), xs[i]? = some x → Kp (Av s a) H1 H2 → Sm H2 s a b (n0 + i) → (∀ H' r, Kp (Av s a) H2 H' → Sm H' s a b (n0 + i + 1) → -1000000000 ≤ r → r ≤ 1000000000 → Q' (.int r) H') → te ((wipe σ [v]).set v (some (.int x))) H2 Q')
    (hd : ∀ H3 (es : List Int), Kp (Av s a) H1 H3 → Sm H3 s a b (n0 + xs.length) → H3 D = some (.lst (es.map V.int)) → es.length = xs.length → (∀ x ∈ es, -1000000000 ≤ x ∧ x ≤ 1000000000) → Qd H3) :
    ∃ W : Nat → Nat → Hp → Prop, (∃ m, W 0 m (upd H1 D (.lst []))) ∧ ∀ i m H, W i m H →
      ((Itl K L).stop i H ∧ Qd H) ∨ ((Itl K L).go i H ∧ ∃ Nx : Hp → Prop, (∀ H', Nx H' → ∃ m', m' < m ∧ W (i + 1) m' H') ∧ ∀ x H', (Itl K L).yld i H x H' → gName v x (wipe σ [v]) H' fun σ2 H2 => wipe σ2 [v] = wipe σ [v] ∧ tYes σ2 H2 fun b H3 =>
        if b = true then te σ2 H3 fun y H4 => ∃ acc, H4 D = some (.lst acc) ∧ acc.length < sizeLine ∧ Nx (upd H4 D (.lst (acc ++ [y]))) else Nx H3) := by
  refine lc_list (xs := xs.map V.int) (PvE s a b H1 D n0) (pv_start nD sm) (fun i H2 _ p => .inl (.inl (p.1 _ _ hL nL))) (fun i x H2 hx p => ⟨wipe_back, ?_⟩) (fun H3 p => ?_)
  · obtain ⟨z, hz, rfl⟩ := getm hx
    have hi : i < xs.length := (List.getElem?_eq_some_iff.mp hz).1
    refine iteT (B := PvE s a b H1 D n0 (i + 1) H2) (he i z H2 _ hz p.1 p.2.1 fun H' r kp sm' r0 r1 => ?_)
    exact pv_step nD sm (by omega) p kp sm' r0 r1
  · obtain ⟨k3, sm3, es, hD, hl, hb⟩ := p
    rw [List.length_map] at sm3 hl
    exact hd H3 es k3 sm3 hD hl hb
section
variable {P : Program} {w : World} {K : PySem.W.Frag} {mg : Str → Option Value} {base : Heap}
theorem ok_row {f fD : Addr} {fd fdD : FuncData} {k : Nat} (F : Fun K "_law_row" "_law_row" sRow f fd) (GD : FnOk P w K mg base CX0 k fD fdD ["_law_stream_here", "_law_many"] spDraw) (FD : Fun K "_law_draw" "_law_draw" sDraw fD fdD)
    (bD : Binds K fdD ["_law_stream_here", "_law_many"] []) (gD : mg "_law_draw" = some (.ref fD)) (mr : mg "range" = none) (mso : mg "sorted" = none) (mtu : mg "tuple" = none) : FnOk P w K mg base CX0 (k + 1) f fd ["_law_stream_here", "_law_most"] spRow := by
  refine F.ok scRow (fun vs H Q E h => ?_) (fun cdv A outer st H vs Q E hr h => ?_)
  · obtain ⟨s, a, b, n, m, rfl, _⟩ := h
    rfl
  · obtain ⟨s, a, b, n, m, rfl, sm, hn, m1, m12, q⟩ := h
    refine ⟨_, pss_cons (ps_asg (pe_tup (pa_cons (pe_op op_add pe_int (pe_call GD hr (by rfl) gD FD.kp bD .nil pass0 (pa_cons (pv 0) (pa_cons (pv 1) pa_nil)))) (pa_cons (pe_call GD hr (by rfl) gD FD.kp bD .nil pass0 (pa_cons (pv 0) (pa_cons pe_int pa_nil))) pa_nil)))
        (pg_tup rfl (pgs_cons (pg_name (i := 2) scRow.nd rfl (.inr rfl)) (pgs_cons (pg_name (i := 3) scRow.nd rfl (.inl rfl)) pgs_nil))))
      (pss_cons (ps_set (i := 4) scRow.nd rfl (.inr rfl) (pe_ix ix_list (pe_lst (pa_cons pe_int (pa_cons pe_int (pa_cons pe_int (pa_cons pe_int (pa_cons pe_int (pa_cons (pe_op op_pow pe_int pe_int) pa_nil))))))) (pv 3) (fun _ _ => rfl)))
      (pss_cons (ps_setLc (i := 5) (own := [("_law_place", 6)]) (g := gName 6) (tt := tYes) rfl scRow.nd rfl rfl (sw_true rfl rfl rfl (by decide +kernel)) (pi_range1 (by rfl) mr (pa_cons (pv 2) pa_nil))
        (blkOk_by (N := rowN) (sc := defScope sRow) (by decide +kernel)) (fun _ _ _ _ _ => pg_name (i := 6) scRow.nd rfl (Or.inl rfl)) (fun _ _ _ _ _ => pts_nil)
        (fun _ _ _ _ _ => pe_call GD hr (by rfl) gD FD.kp bD .nil pass0 (pa_cons (pv 0) (pa_cons (pv 4) pa_nil))))
      (pss_cons (ps_if (pt_cmpR op_eq (pv 3) pe_int (nomark _))
        (pss_one (ps_setLc (i := 5) (own := [("_law_k", 7)]) (g := gName 7) (tt := tYes) rfl scRow.nd rfl rfl (sw_true rfl rfl rfl (by decide +kernel)) (pi_range1 (by rfl) mr (pa_cons (pv 2) pa_nil))
          (blkOk_by (N := rowN) (sc := defScope sRow) (by decide +kernel)) (fun _ _ _ _ _ => pg_name (i := 7) scRow.nd rfl (Or.inl rfl)) (fun _ _ _ _ _ => pts_nil)
          (fun _ _ _ _ _ => pe_ix (r := rIxL K) ix_list (pe_lst (pa_cons (pv 7) (pa_cons (pe_op op_sub (pv 2) (pv 7)) (pa_cons pe_int pa_nil)))) (pe_call GD hr (by rfl) gD FD.kp bD .nil pass0 (pa_cons (pv 0) (pa_cons pe_int pa_nil))) (fun _ _ => rfl)))) pss_nil)
      (pss_cons (ps_if (pt_cmpR op_eq (pv 3) pe_int (nomark _))
        (pss_one (ps_setLc (i := 5) (own := [("_law_entry", 8)]) (g := gName 8) (tt := tYes) rfl scRow.nd rfl rfl (sw_true rfl rfl rfl (by decide +kernel)) (pi_list (pv 5))
          (blkOk_by (N := rowN) (sc := defScope sRow) (by decide +kernel)) (fun _ _ _ _ _ => pg_name (i := 8) scRow.nd rfl (Or.inl rfl)) (fun _ _ _ _ _ => pts_nil)
          (fun _ _ _ _ _ => pe_ix (r := rIxL K) ix_list (pe_lst (pa_cons (pv 8) (pa_cons (pe_op op_sub pe_int (pv 8)) (pa_cons (pe_op op_pow pe_int pe_int) (pa_cons (pe_op op_sub pe_int (pe_op op_pow pe_int pe_int)) pa_nil)))))
            (pe_call GD hr (by rfl) gD FD.kp bD .nil pass0 (pa_cons (pv 0) (pa_cons pe_int pa_nil))) (fun _ _ => rfl)))) pss_nil)
      (pss_cons (ps_if (PW.pt (pw_and (pt_cmpR op_eq (pv 3) pe_int (nomark _)) (pw_and1 (pt_cmpR op_eq (pe_call GD hr (by rfl) gD FD.kp bD .nil pass0 (pa_cons (pv 0) (pa_cons pe_int pa_nil))) pe_int (nomark _)))))
        (pss_one (ps_set (i := 5) scRow.nd rfl (.inl rfl) (pe_step (pe_callB cr_sortedI (by rfl) mso (by decide +kernel) (pa_cons (pv 5) pa_nil))
          (pe_ix ix_list (pe_lst (pa_cons pe_int (pa_cons (pe_un un_neg pe_int) pa_nil))) (pe_call GD hr (by rfl) gD FD.kp bD .nil pass0 (pa_cons (pv 0) (pa_cons pe_int pa_nil))) (fun _ _ => rfl))))) pss_nil)
      (pss_one (ps_ret (pe_callTy call_tuple_of (by rfl) mtu (by decide +kernel) (pa_cons (pv 5) pa_nil))))))))), ?_⟩
    -- _law_size, _law_way
    refine ⟨.ref s, rfl, .int m, rfl, s, a, b, n, m, rfl, sm, by omega, by omega, by omega, fun H1 r1 k1 sm1 r10 r11 => ⟨1, r1, rfl, rfl, .ref s, rfl, s, a, b, n + 1, 6, rfl, sm1, by omega, by decide, by decide, fun H2 r2 k2 sm2 r20 r21 => ⟨by show 2 ≤ sizeLine; decide, fun t nt => ?_⟩⟩⟩
    refine ⟨t, _, rfl, .inl (.inl upd_same), rfl, _, _, rfl, _, _, rfl, rfl, ?_⟩
    have s3 := same_upd (o := .tup [.int (1 + r1), .int r2]) nt
    have k3 := (k1.trans k2).trans (Kp.of_same s3)
    have sm3 := sm2.keep s3
    generalize upd H2 t (.tup [.int (1 + r1), .int r2]) = H3 at *
    dsimp only
    obtain ⟨N, hN⟩ : ∃ N : Nat, 1 + r1 = (N : Int) := ⟨(1 + r1).toNat, by omega⟩
    rw [hN]
    have N1 : 1 ≤ N := by omega
    have N2 : (N : Int) ≤ m := by omega
    -- _law_width
    refine ⟨10, 9, rfl, rfl, ⟨by decide, by decide, by decide⟩, by show 6 ≤ sizeLine; decide, fun p np => ?_⟩
    have s4 := same_upd (o := .lst [.int 2, .int 3, .int 6, .int 40, .int 3, .int (10 ^ (9 : Int).toNat)]) np
    obtain ⟨wv, hat, w0, w1⟩ : ∃ wv : Int, atI ([.int 2, .int 3, .int 6, .int 40, .int 3, .int (10 ^ (9 : Int).toNat)] : List V) r2 = some (.int wv) ∧ 0 < wv ∧ wv ≤ 1000000000 := by
      obtain ⟨j, rfl⟩ : ∃ j : Nat, r2 = (j : Int) := ⟨r2.toNat, by omega⟩
      have hj : j < 6 := by omega
      match j, hj with
      | 0, _ => exact ⟨2, rfl, by decide, by decide⟩
      | 1, _ => exact ⟨3, rfl, by decide, by decide⟩
      | 2, _ => exact ⟨6, rfl, by decide, by decide⟩
      | 3, _ => exact ⟨40, rfl, by decide, by decide⟩
      | 4, _ => exact ⟨3, rfl, by decide, by decide⟩
      | 5, _ => exact ⟨1000000000, by decide +kernel, by decide, by decide⟩
    refine ⟨.int r2, rfl, p, _, r2, .int wv, rfl, rfl, .inl (.inl upd_same), hat, ?_⟩
    have k4 := k3.trans (Kp.of_same s4)
    have sm4 := sm3.keep s4
    clear hat
    dsimp only
    generalize upd H3 p (.lst [.int 2, .int 3, .int 6, .int 40, .int 3, .int (10 ^ (9 : Int).toNat)]) = H4 at *
    -- _law_entries, drawn
    refine ⟨.int N, rfl, N, rfl, by omega, by omega, fun D nD => lc_rows (s := s) (a := a) (b := b) (n0 := n + 2) nD sm4 (by show (N : Int).toNat ≤ 1000; omega) (fun i H5 Q' hi k5 sm5 q5 => ?_) (fun H5 es k5 sm5 hD hl hb => ?_)⟩
    · exact ⟨.ref s, rfl, .int wv, rfl, s, a, b, _, wv, rfl, sm5, by omega, w0, w1, fun H' r kp sm' r0 r1 => q5 H' r kp sm' (by omega) (by omega)⟩
    rw [Int.toNat_natCast] at sm5 hl
    have nvD : ¬ Av s a D := sm4.nav nD
    have k6 := k4.trans k5
    have fin : ∀ (H7 : Hp) (L : Addr) (zs : List Int) (n7 : Nat), Kp (Av s a) H H7 → Sm H7 s a b n7 → n7 ≤ n + 50 → H7 L = some (.lst (zs.map V.int)) → zs.length = N → (∀ x ∈ zs, -1000000000 ≤ x ∧ x ≤ 1000000000) →
        SqL K H7 L (zs.map V.int) ∧ ∀ l, H7 l = none → Q (.ref l) (upd H7 l (.tup (zs.map V.int))) := by
      intro H7 L zs n7 k7 sm7 hn7 hL hz hbz
      refine ⟨.inl (.inl hL), fun l nl => ?_⟩
      exact q _ l zs (k7.trans (Kp.of_same (same_upd nl))) ((sm7.keep (same_upd nl)).mono hn7) upd_same (by omega) (by omega) hbz
    -- if _law_way == 4
    refine ⟨.int r2, rfl, rfl, _, rfl, ite2 (fun e4 => ?_) (fun e4 => ?_)⟩
    · have e4' : r2 = 4 := V.int.inj (of_decide_eq_true e4)
      subst e4'
      refine ⟨.int N, rfl, N, rfl, by omega, by omega, fun D2 nD2 => lc_rows (s := s) (a := a) (b := b) (n0 := n + 2 + N) nD2 sm5 (by show (N : Int).toNat ≤ 1000; omega) (fun i H6 Q' hi k7 sm7 q7 => ?_) (fun H7 zs k7 sm7 hD2 hz hbz => ?_)⟩
      · refine ⟨.int (0 + i), rfl, .int N, rfl, .int (0 + i), rfl, N, 0 + i, rfl, rfl, by show 3 ≤ sizeLine; decide, fun p2 np2 => ?_⟩
        have s8 := same_upd (o := .lst [.int (0 + i), .int (N - (0 + i)), .int 0]) np2
        refine ⟨.ref s, rfl, s, a, b, _, 3, rfl, sm7.keep s8, by omega, by decide, by decide, fun H' r kp sm' r0 r1 => ?_⟩
        have hp2 := kp _ _ (upd_same (H := H6) (a := p2) (o := .lst [.int (0 + i), .int (N - (0 + i)), .int 0])) (sm7.nav np2)
        have hi' : i < N := by
          rw [Int.toNat_natCast] at hi
          exact hi
        obtain ⟨y, hy, y0, y1⟩ : ∃ y : Int, atI ([.int (0 + i), .int (N - (0 + i)), .int 0] : List V) r = some (.int y) ∧ -1000000000 ≤ y ∧ y ≤ 1000000000 := by
          obtain ⟨j, rfl⟩ : ∃ j : Nat, r = (j : Int) := ⟨r.toNat, by omega⟩
          have hj : j < 3 := by omega
          match j, hj with
          | 0, _ => exact ⟨0 + i, rfl, by omega, by omega⟩
          | 1, _ => exact ⟨N - (0 + i), rfl, by omega, by omega⟩
          | 2, _ => exact ⟨0, rfl, by omega, by omega⟩
        exact ⟨p2, _, r, .int y, rfl, rfl, .inl (.inl hp2), hy, q7 H' y ((Kp.of_same s8).trans kp) sm' y0 y1⟩
      · rw [Int.toNat_natCast] at sm7 hz
        refine ⟨.int 4, rfl, rfl, _, rfl, ?_⟩
        refine iteF ?_
        -- not 3
        refine ⟨.int 4, rfl, rfl, _, rfl, ?_⟩
        refine iteF ?_
        refine iteF ?_
        exact ⟨.ref D2, rfl, D2, _, rfl, .inl (fin H7 D2 zs _ (k6.trans k7) sm7 (by omega) hD2 hz hbz)⟩
    · -- if _law_way == 5
      refine ⟨.int r2, rfl, rfl, _, rfl, ite2 (fun e5 => ?_) (fun e5 => ?_)⟩
      · have e5' : r2 = 5 := V.int.inj (of_decide_eq_true e5)
        subst e5'
        refine ⟨.ref D, rfl, D, rfl, ⟨_, .inl (.inl hD)⟩, fun D2 nD2 => lc_rowsL (s := s) (a := a) (b := b) (n0 := n + 2 + N) (xs := es) nD2 sm5 (by omega) hD nvD (fun i x H6 Q' hx k7 sm7 q7 => ?_) (fun H7 zs k7 sm7 hD2 hz hbz => ?_)⟩
        · have hi' : i < es.length := (List.getElem?_eq_some_iff.mp hx).1
          obtain ⟨x0, x1⟩ := hb x (List.mem_of_getElem? hx)
          refine ⟨.int x, rfl, .int x, rfl, 0, x, rfl, rfl, 10, 9, rfl, rfl, ⟨by decide, by decide, by decide⟩, 10, 9, rfl, rfl, ⟨by decide, by decide, by decide⟩, 0, _, rfl, rfl, by show 4 ≤ sizeLine; decide, fun p2 np2 => ?_⟩
          have s8 := same_upd (o := .lst [.int x, .int (0 - x), .int (10 ^ (9 : Int).toNat), .int (0 - 10 ^ (9 : Int).toNat)]) np2
          refine ⟨.ref s, rfl, s, a, b, _, 4, rfl, sm7.keep s8, by omega, by decide, by decide, fun H' r kp sm' r0 r1 => ?_⟩
          have hp2 := kp _ _ (upd_same (H := H6) (a := p2) (o := .lst [.int x, .int (0 - x), .int (10 ^ (9 : Int).toNat), .int (0 - 10 ^ (9 : Int).toNat)])) (sm7.nav np2)
          obtain ⟨y, hy, y0, y1⟩ : ∃ y : Int, atI ([.int x, .int (0 - x), .int (10 ^ (9 : Int).toNat), .int (0 - 10 ^ (9 : Int).toNat)] : List V) r = some (.int y) ∧ -1000000000 ≤ y ∧ y ≤ 1000000000 := by
            obtain ⟨j, rfl⟩ : ∃ j : Nat, r = (j : Int) := ⟨r.toNat, by omega⟩
            have hj : j < 4 := by omega
            match j, hj with
            | 0, _ => exact ⟨x, rfl, by omega, by omega⟩
            | 1, _ => exact ⟨0 - x, rfl, by omega, by omega⟩
            | 2, _ => exact ⟨1000000000, rfl, by omega, by omega⟩
            | 3, _ => exact ⟨-1000000000, rfl, by omega, by omega⟩
          exact ⟨p2, _, r, .int y, rfl, rfl, .inl (.inl hp2), hy, q7 H' y ((Kp.of_same s8).trans kp) sm' y0 y1⟩
        · refine ⟨.int 5, rfl, rfl, _, rfl, ?_⟩
          refine iteF ?_
          refine iteF ?_
          exact ⟨.ref D2, rfl, D2, _, rfl, .inl (fin H7 D2 zs _ (k6.trans k7) sm7 (by omega) hD2 (by omega) hbz)⟩
      · -- if _law_way == 3 and a draw
        refine ⟨.int r2, rfl, rfl, _, rfl, ?_⟩
        refine ite2 (fun e3 => ?_) (fun e3 => ?_)
        · refine ⟨.ref s, rfl, s, a, b, _, 2, rfl, sm5, by omega, by decide, by decide, fun H6 r k7 sm7 r0 r1 => ?_⟩
          have hD6 := k7 _ _ hD nvD
          refine ⟨rfl, _, rfl, ite2 (fun e0 => ?_) (fun e0 => ?_)⟩
          · refine ⟨.ref D, rfl, D, es, rfl, .inl (.inl hD6), fun ns' p5 perm _ np5 => ?_⟩
            have s8 := same_upd (o := .lst (ns'.map V.int)) np5
            have sm8 := sm7.keep s8
            have e8 : (upd H6 p5 (.lst (ns'.map V.int))) p5 = some (.lst (ns'.map V.int)) := upd_same
            have k8 := k7.trans (Kp.of_same s8)
            have nv5 := sm7.nav np5
            generalize upd H6 p5 (.lst (ns'.map V.int)) = H7 at *
            refine ⟨1, rfl, by show 2 ≤ sizeLine; decide, fun p6 np6 => ?_⟩
            have s9 := same_upd (o := .lst [.int 1, .int (-1)]) np6
            refine ⟨.ref s, rfl, s, a, b, _, 2, rfl, sm8.keep s9, by omega, by decide, by decide, fun H8 r' k9 sm9 r0' r1' => ?_⟩
            have hp6 := k9 _ _ (upd_same (H := H7) (a := p6) (o := .lst [.int 1, .int (-1)])) (sm8.nav np6)
            have hp5 := k9 _ _ (s9 _ _ e8) nv5
            obtain ⟨y, hy, hy1⟩ : ∃ y : Int, atI ([.int 1, .int (-1)] : List V) r' = some (.int y) ∧ (y = 1 ∨ y = -1) := by
              obtain ⟨j, rfl⟩ : ∃ j : Nat, r' = (j : Int) := ⟨r'.toNat, by omega⟩
              have hj : j < 2 := by omega
              match j, hj with
              | 0, _ => exact ⟨1, rfl, .inl rfl⟩
              | 1, _ => exact ⟨-1, rfl, .inr rfl⟩
            refine ⟨p6, _, r', .int y, rfl, rfl, .inl (.inl hp6), hy, p5, _, y, rfl, .inl (.inl hp5), rfl, hy1, fun zs l hzs nl => ?_⟩
            obtain ⟨zz, rfl, hlen, hmem⟩ : ∃ zz : List Int, zs = zz.map V.int ∧ zz.length = N ∧ ∀ x ∈ zz, -1000000000 ≤ x ∧ x ≤ 1000000000 := by
              have h1 : ns'.length = N := perm.length_eq.trans hl
              have h2 : ∀ x ∈ ns', -1000000000 ≤ x ∧ x ≤ 1000000000 := fun x hx => hb x (perm.mem_iff.mp hx)
              rcases hzs with z | z
              · exact ⟨ns', z, h1, h2⟩
              · exact ⟨ns'.reverse, by rw [z, List.map_reverse], by rw [List.length_reverse]; exact h1, fun x hx => h2 x (List.mem_reverse.mp hx)⟩
            have s10 := same_upd (o := .lst (zz.map V.int)) nl
            exact ⟨.ref l, rfl, l, _, rfl, .inl (fin _ l zz _ ((k6.trans k8).trans ((Kp.of_same s9).trans (k9.trans (Kp.of_same s10)))) (sm9.keep s10) (by omega) upd_same hlen hmem)⟩
          · exact ⟨.ref D, rfl, D, _, rfl, .inl (fin H6 D es _ (k6.trans k7) sm7 (by omega) hD6 hl hb)⟩
        · refine iteF ?_
          exact ⟨.ref D, rfl, D, _, rfl, .inl (fin H5 D es _ k6 sm5 (by omega) hD hl hb)⟩
end
end Lw
namespace Lw
open PySem PySem.Spec PyProof.Rows L2 Gd
abbrev sWhole : Stmt := topS 6
abbrev sPlace : Stmt := topS 7
abbrev sWin : Stmt := topS 8
abbrev sLeast : Stmt := topS 9
abbrev sLawLeast : Stmt := topS 16
abbrev sLawWin : Stmt := topS 17
abbrev sWinErr : Stmt := topS 18
theorem scWhole : FnScope ["value"] ["value"] (defScope sWhole) := ⟨rfl, rfl, rfl, by decide +kernel, rfl, by decide +kernel, by decide +kernel⟩
theorem scPlace : FnScope ["many", "value"] ["many", "value"] (defScope sPlace) := ⟨rfl, rfl, rfl, by decide +kernel, rfl, by decide +kernel, by decide +kernel⟩
theorem scWin : FnScope ["many", "first", "last"] ["many", "first", "last"] (defScope sWin) := ⟨rfl, rfl, rfl, by decide +kernel, rfl, by decide +kernel, by decide +kernel⟩
theorem scLeast : FnScope ["row", "first", "last", "least", "place"] ["row", "first", "last"] (defScope sLeast) := ⟨rfl, rfl, rfl, by decide +kernel, rfl, by decide +kernel, by decide +kernel⟩
theorem scLawLeast : FnScope ["_law_row_here", "_law_first", "_law_last", "_law_best", "_law_place"] ["_law_row_here", "_law_first", "_law_last"] (defScope sLawLeast) := ⟨rfl, rfl, rfl, by decide +kernel, rfl, by decide +kernel, by decide +kernel⟩
theorem scLawWin : FnScope ["_law_many", "_law_first", "_law_last", "_law_value"] ["_law_many", "_law_first", "_law_last"] (defScope sLawWin) := ⟨rfl, rfl, rfl, by decide +kernel, rfl, by decide +kernel, by decide +kernel⟩
theorem scWinErr : FnScope ["_law_call", "_law_thing", "_law_first", "_law_last", "error"] ["_law_call", "_law_thing", "_law_first", "_law_last"] (defScope sWinErr) := ⟨rfl, rfl, rfl, by decide +kernel, rfl, by decide +kernel, by decide +kernel⟩
/-! ### what is asked of a value -/
inductive Kd (H : Hp) : V → Prop
  | non : Kd H .non
  | bl (b : Bool) : Kd H (.bl b)
  | int (i : Int) : Kd H (.int i)
  | str (x : Str) : Kd H (.str x)
  | lst {p : Addr} {xs : List V} (e : H p = some (.lst xs)) : Kd H (.ref p)
  | tup {p : Addr} {xs : List V} (e : H p = some (.tup xs)) : Kd H (.ref p)
  | dct {p : Addr} {kvs : List (Key × V)} (e : H p = some (.dK kvs)) : Kd H (.ref p)
theorem Dv.kd {av : Addr → Prop} {H : Hp} {v : V} {d : PyData} (h : Dv av H v d) : Kd H v := by
  cases h with
  | non => exact .non
  | bl b => exact .bl b
  | int i => exact .int i
  | str x => exact .str x
  | lst e _ _ _ => exact .lst e
  | tup e _ _ _ => exact .tup e
  | dct e _ _ => exact .dct e
theorem Kd.keep {H H' : Hp} {v : V} (k : Same H H') (h : Kd H v) : Kd H' v := by
  cases h with
  | non => exact .non
  | bl b => exact .bl b
  | int i => exact .int i
  | str x => exact .str x
  | lst e => exact .lst (k _ _ e)
  | tup e => exact .tup (k _ _ e)
  | dct e => exact .dct (k _ _ e)
def isI : V → Bool
  | .int _ => true
  | _ => false
def isIB : V → Bool
  | .int _ => true
  | .bl _ => true
  | _ => false
def isB : V → Bool
  | .bl _ => true
  | _ => false
def isTu (H : Hp) : V → Bool
  | .ref p => match H p with
    | some (.tup _) => true
    | _ => false
  | _ => false
def plc (m : Int) : V → Bool
  | .int i => decide (0 ≤ i) && decide (i < m)
  | _ => false
def leV : V → V → Bool
  | .int i, .int j => decide (i ≤ j)
  | _, _ => false
def win (m : Int) (f l : V) : Bool := plc m f && (plc m l && leV f l)
theorem plc_int {m : Int} {v : V} (h : plc m v = true) : ∃ i : Nat, v = .int i ∧ (i : Int) < m := by
  cases v with
  | int i =>
    have h' : (decide (0 ≤ i) && decide (i < m)) = true := h
    rw [Bool.and_eq_true] at h'
    have h1 := of_decide_eq_true h'.1
    have h2 := of_decide_eq_true h'.2
    exact ⟨i.toNat, by rw [Int.toNat_of_nonneg h1], by omega⟩
  | _ => cases h
theorem win_ints {m : Int} {f l : V} (h : win m f l = true) : ∃ i j : Nat, f = .int i ∧ l = .int j ∧ i ≤ j ∧ (j : Int) < m := by
  unfold win at h
  rw [Bool.and_eq_true, Bool.and_eq_true] at h
  obtain ⟨i, rfl, hi⟩ := plc_int h.1
  obtain ⟨j, rfl, hj⟩ := plc_int h.2.1
  have h3 : (i : Int) ≤ j := of_decide_eq_true h.2.2
  exact ⟨i, j, rfl, rfl, by omega, hj⟩
/-- the least place among i, .., i + k -/
def best (ns : List Int) (i : Nat) : Nat → Nat
  | 0 => i
  | k + 1 => if ns.getD (i + (k + 1)) 0 < ns.getD (best ns i k) 0 then i + (k + 1) else best ns i k
theorem best_le (ns : List Int) (i : Nat) : ∀ k, i ≤ best ns i k ∧ best ns i k ≤ i + k
  | 0 => ⟨Nat.le_refl _, Nat.le_refl _⟩
  | k + 1 => by
    have ih := best_le ns i k
    simp only [best]
    split <;> omega
def spWhole : Sp := fun vs H Q _ => ∃ v, vs = [v] ∧ Kd H v ∧ Q (.bl (isI v)) H
def spPlace : Sp := fun vs H Q _ => ∃ (m : Int) (v : V), vs = [.int m, v] ∧ Kd H v ∧ Q (.bl (plc m v)) H
def spWin : Sp := fun vs H Q _ => ∃ (m : Int) (f l : V), vs = [.int m, f, l] ∧ Kd H f ∧ Kd H l ∧ ∀ H', Same H H' → Q (.bl (win m f l)) H'
/-- the row at p, two values; the least place, or an error that holds both -/
def spLeast (C : Addr) : Sp := fun vs H Q E => ∃ (p : Addr) (ns : List Int) (f l : V), vs = [.ref p, f, l] ∧ ns.length ≤ 12 ∧ H p = some (.tup (ns.map V.int)) ∧ Kd H f ∧ Kd H l ∧
  (∀ i j : Nat, f = .int i → l = .int j → win ns.length f l = true → ∀ H', Same H H' → Q (.int (best ns i (j - i))) H') ∧
  (win ns.length f l = false → ∀ H' t d, Same H H' → H' t = some (.tup [f, l]) → H' d = some (.xd [(("value" : Str), .ref t)]) → E (.ref C) (some d) H')
def spLawLeast : Sp := fun vs H Q _ => ∃ (p : Addr) (ns : List Int) (i j : Nat), vs = [.ref p, .int i, .int j] ∧ ns.length ≤ 12 ∧ H p = some (.tup (ns.map V.int)) ∧ i ≤ j ∧ j < ns.length ∧ Q (.int (best ns i (j - i))) H
section
variable {P : Program} {w : World} {K : PySem.W.Frag} {mg : Str → Option Value} {base : Heap}
theorem kt {a b : String} {r : Bool} (h : kitB a b = some r) {r' : Bool} (e : r' = r) : PySem.W.kitOne K (.type a) (.type b) = some r' := by
  rw [e]
  exact kit_ty h
theorem ty_int {H : Hp} {v : V} (h : Kd H v) : ∃ t, TyX K H v (.type t) ∧ PySem.W.kitOne K (.type t) (.type "int") = some (isIB v) ∧ PySem.W.kitOne K (.type t) (.type "bool") = some (isB v) ∧ PySem.W.kitOne K (.type t) (.type "tuple") = some (isTu H v) := by
  cases h with
  | non => exact ⟨"NoneType", .base .non, kt (r := false) (by decide +kernel) rfl, kt (r := false) (by decide +kernel) rfl, kt (r := false) (by decide +kernel) rfl⟩
  | bl b => exact ⟨"bool", .base (.bl b), kt (r := true) (by decide +kernel) rfl, kt (r := true) (by decide +kernel) rfl, kt (r := false) (by decide +kernel) rfl⟩
  | int i => exact ⟨"int", .base (.int i), kt (r := true) (by decide +kernel) rfl, kt (r := false) (by decide +kernel) rfl, kt (r := false) (by decide +kernel) rfl⟩
  | str x => exact ⟨"str", .base (.str x), kt (r := false) (by decide +kernel) rfl, kt (r := false) (by decide +kernel) rfl, kt (r := false) (by decide +kernel) rfl⟩
  | lst e => exact ⟨"list", .base (.lst e), kt (r := false) (by decide +kernel) rfl, kt (r := false) (by decide +kernel) rfl, kt (r := false) (by decide +kernel) (by simp only [isTu, e])⟩
  | tup e => exact ⟨"tuple", .base (.tup e), kt (r := false) (by decide +kernel) rfl, kt (r := false) (by decide +kernel) rfl, kt (r := true) (by decide +kernel) (by simp only [isTu, e])⟩
  | dct e => exact ⟨"dict", .base (.dK e), kt (r := false) (by decide +kernel) rfl, kt (r := false) (by decide +kernel) rfl, kt (r := false) (by decide +kernel) (by simp only [isTu, e])⟩
theorem ok_whole {f : Addr} {fd : FuncData} {k : Nat} (F : Fun K "is_whole" "is_whole" sWhole f fd) (mi : mg "isinstance" = none) (mint : mg "int" = none) (mbool : mg "bool" = none) : FnOk P w K mg base CX0 (k + 1) f fd ["value"] spWhole := by
  refine F.ok scWhole (fun vs H Q E h => ?_) (fun cdv A outer st H vs Q E hr h => ?_)
  · obtain ⟨v, rfl, _⟩ := h
    rfl
  · obtain ⟨v, rfl, kd, q⟩ := h
    refine ⟨_, pss_one (ps_ret (pe_and (pe_callB call_isi (by rfl) mi (by decide +kernel) (pa_cons (pv 0) (pa_cons (pe_bltn (v := .ty "int") (by rfl) mint (by decide +kernel) rfl) pa_nil)))
      (pe_one (pe_not (pe_callB call_isi (by rfl) mi (by decide +kernel) (pa_cons (pv 0) (pa_cons (pe_bltn (v := .ty "bool") (by rfl) mbool (by decide +kernel) rfl) pa_nil))))))), ?_⟩
    obtain ⟨t, ty, k1, k2, _⟩ := ty_int (K := K) kd
    refine ⟨v, rfl, v, .ty "int", .type t, .type "int", _, rfl, .ty _, ty, k1, _, rfl, ite2 (fun e => ?_) (fun e => ?_)⟩
    · refine ⟨v, rfl, v, .ty "bool", .type t, .type "bool", _, rfl, .ty _, ty, k2, _, rfl, ?_⟩
      cases kd with
      | bl b => exact q
      | int i => exact q
      | _ => cases e
    · cases kd with
      | bl b => exact absurd rfl e
      | int i => exact absurd rfl e
      | _ => exact q
theorem ok_place {f fW : Addr} {fd fdW : FuncData} {k : Nat} (F : Fun K "is_place" "is_place" sPlace f fd) (GW : FnOk P w K mg base CX0 k fW fdW ["value"] spWhole) (kW : PySem.W.keepIn K (.ref fW) = true) (bW : Binds K fdW ["value"] [])
    (gW : mg "is_whole" = some (.ref fW)) : FnOk P w K mg base CX0 (k + 1) f fd ["many", "value"] spPlace := by
  refine F.ok scPlace (fun vs H Q E h => ?_) (fun cdv A outer st H vs Q E hr h => ?_)
  · obtain ⟨m, v, rfl, _⟩ := h
    rfl
  · obtain ⟨m, v, rfl, kd, q⟩ := h
    refine ⟨_, pss_one (ps_ret (pe_and (pe_call GW hr (by rfl) gW kW bW .nil pass0 (pa_cons (pv 1) pa_nil)) (pe_one (pe_chain op_le op_lt pe_int (pv 1) (pv 0))))), ?_⟩
    refine ⟨v, rfl, v, rfl, kd, _, rfl, ?_⟩
    cases kd with
    | int i =>
      refine iteT ?_
      refine ⟨.int i, rfl, 0, i, rfl, rfl, _, rfl, ite2 (fun e => ?_) (fun e => ?_)⟩
      · refine ⟨.int m, rfl, i, m, rfl, rfl, ?_⟩
        have z : plc m (.int i) = decide (i < m) := by
          show (decide (0 ≤ i) && decide (i < m)) = _
          rw [e, Bool.true_and]
        rw [z] at q
        exact q
      · have z : plc m (.int i) = false := by
          show (decide (0 ≤ i) && decide (i < m)) = _
          rw [Bool.eq_false_iff.mpr e, Bool.false_and]
        rw [z] at q
        exact q
    | _ => exact iteF q
theorem ok_win {f fW : Addr} {fd fdW : FuncData} {k : Nat} (F : Fun K "is_window" "is_window" sWin f fd) (GW : FnOk P w K mg base CX0 k fW fdW ["many", "value"] spPlace) (kW : PySem.W.keepIn K (.ref fW) = true) (bW : Binds K fdW ["many", "value"] [])
    (gW : mg "is_place" = some (.ref fW)) : FnOk P w K mg base CX0 (k + 1) f fd ["many", "first", "last"] spWin := by
  refine F.ok scWin (fun vs H Q E h => ?_) (fun cdv A outer st H vs Q E hr h => ?_)
  · obtain ⟨m, v, u, rfl, _⟩ := h
    rfl
  · obtain ⟨m, v, u, rfl, kv, ku, q⟩ := h
    have q := q H (Same.refl H)
    refine ⟨_, pss_one (ps_ret (pe_and (pe_call GW hr (by rfl) gW kW bW .nil pass0 (pa_cons (pv 0) (pa_cons (pv 1) pa_nil))) (pe_and (pe_call GW hr (by rfl) gW kW bW .nil pass0 (pa_cons (pv 0) (pa_cons (pv 2) pa_nil))) (pe_one (pe_cmpR op_le (pv 1) (pv 2) (nomark _)))))), ?_⟩
    refine ⟨.int m, rfl, v, rfl, m, v, rfl, kv, _, rfl, ite2 (fun e => ?_) (fun e => ?_)⟩
    · refine ⟨.int m, rfl, u, rfl, m, u, rfl, ku, _, rfl, ite2 (fun e2 => ?_) (fun e2 => ?_)⟩
      · obtain ⟨i, rfl, hi⟩ := plc_int e
        obtain ⟨j, rfl, hj⟩ := plc_int e2
        refine ⟨.int i, rfl, .int j, rfl, i, j, rfl, rfl, ?_⟩
        unfold win at q
        rw [e, e2, Bool.true_and, Bool.true_and] at q
        exact q
      · unfold win at q
        rw [Bool.eq_false_iff.mpr e2, Bool.false_and, Bool.and_false] at q
        exact q
    · unfold win at q
      rw [Bool.eq_false_iff.mpr e, Bool.false_and] at q
      exact q
theorem getD_at {ns : List Int} {n : Nat} (h : n < ns.length) : atI (ns.map V.int) (n : Int) = some (.int (ns.getD n 0)) := by
  refine atI_nat ?_
  rw [List.getElem?_map, List.getElem?_eq_getElem h, List.getD_eq_getElem?_getD, List.getElem?_eq_getElem h]
  rfl
theorem ok_least {f fW C fI : Addr} {fd fdW : FuncData} {k : Nat} (F : Fun K "least_place" "least_place" sLeast f fd) (T : PySem.NoWindowX.NoWindowTxt K mg C fI) (GW : FnOk P w K mg base CX0 k fW fdW ["many", "first", "last"] spWin) (kW : PySem.W.keepIn K (.ref fW) = true)
    (bW : Binds K fdW ["many", "first", "last"] []) (gW : mg "is_window" = some (.ref fW)) (ml : mg "len" = none) (mr : mg "range" = none) : FnOk P w K mg base (L2.CX P w) (k + 1) f fd ["row", "first", "last"] (spLeast C) := by
  refine F.okX scLeast (fun vs H Q E h => ?_) (fun cdv A outer st H vs Q E hr h => ?_)
  · obtain ⟨p, ns, v, u, rfl, _⟩ := h
    rfl
  · obtain ⟨p, ns, v, u, rfl, n12, hp, kv, ku, qY, qN⟩ := h
    refine ⟨_, pss_cons (ps_if (pt_not (pt_val (pe_call GW hr (by rfl) gW kW bW .nil pass0 (pa_cons (pe_callB call_len_seq (by rfl) ml PySem.boot_len (pa_cons (pv 0) pa_nil)) (pa_cons (pv 1) (pa_cons (pv 2) pa_nil))))))
        (pss_one (ps_raiseNoWindow rfl T hr (takes_of rfl rfl rfl rfl) (by exact (pa_cons (pe_tup (pa_cons (pv 1) (pa_cons (pv 2) pa_nil))) pa_nil)))) pss_nil)
      (PSs.nox (pss_cons (ps_set (i := 3) scLeast.nd rfl (.inl rfl) (pv 1))
      (pss_cons (ps_for PassesOwn.never rfl (pi_range2 (by rfl) mr (pa_cons (pe_op op_add (pv 1) pe_int) (pa_cons (pe_op op_add (pv 2) pe_int) pa_nil))) (pg_name (i := 4) scLeast.nd rfl (.inl rfl))
        (pss_one (ps_if (pt_cmpR op_lt (pe_ix ix_tup (pv 0) (pv 4) (fun _ _ => rfl)) (pe_ix ix_tup (pv 0) (pv 3) (fun _ _ => rfl)) (nomark _)) (pss_one (ps_set (i := 3) scLeast.nd rfl (.inl rfl) (pv 4))) pss_nil)))
      (pss_one (ps_ret (pv 3)))))), ?_⟩
    refine ⟨.ref p, rfl, p, _, rfl, .inr (.inl (.inl hp)), v, rfl, u, rfl, _, v, u, rfl, kv, ku, fun H1 s1 => ⟨_, rfl, ?_⟩⟩
    have el : (((ns.map V.int).length : Nat) : Int) = ns.length := by rw [List.length_map]
    rw [el]
    cases hw : win ns.length v u with
    | false =>
      refine iteT ⟨v, rfl, u, rfl, by show 2 ≤ sizeLine; decide, fun t nt => ⟨_, rfl, fun d nd => ?_⟩⟩
      have s2 := same_upd (o := .tup [v, u]) nt
      have s3 := same_upd (o := .xd [(("value" : Str), .ref t)]) nd
      exact qN hw _ t d (s1.trans (s2.trans s3)) (s3 _ _ upd_same) upd_same
    | true =>
      refine iteF ?_
      obtain ⟨i, j, rfl, rfl, hij, hj⟩ := win_ints hw
      have hp1 := s1 _ _ hp
      refine ⟨.int i, rfl, .int i, rfl, i, 1, rfl, rfl, .int j, rfl, j, 1, rfl, rfl, _, _, rfl, ⟨by omega, by omega, by omega, by omega⟩, for_range (lo := (i : Int) + 1) (n := ((j : Int) + 1 - ((i : Int) + 1)).toNat) (fun c σ H2 => Same H H2 ∧ ∃ y, σ = [some (.ref p), some (.int i), some (.int j), some (.int (best ns i c)), y]) ⟨s1, none, rfl⟩ (fun c σ H2 hc hW => ?_) (fun σ H2 hW => ?_)⟩
      · obtain ⟨s2, y, rfl⟩ := hW
        have hc' : c < j - i := by omega
        have b := best_le ns i c
        have e1 : (i : Int) + 1 + c = ((i + (c + 1) : Nat) : Int) := by omega
        rw [e1]
        refine ⟨.ref p, rfl, .int ((i + (c + 1) : Nat) : Int), rfl, p, _, _, _, rfl, rfl, .inl (.inl (s2 _ _ hp)), getD_at (by omega), .ref p, rfl, .int (best ns i c), rfl, p, _, _, _, rfl, rfl, .inl (.inl (s2 _ _ hp)), getD_at (by omega), _, _, rfl, rfl, _, rfl, ite2 (fun e => ?_) (fun e => ?_)⟩
        · have e' := of_decide_eq_true e
          refine ⟨.int ((i + (c + 1) : Nat) : Int), rfl, s2, some (.int ((i + (c + 1) : Nat) : Int)), ?_⟩
          simp only [best]
          rw [if_pos e']
          rfl
        · have e' : ¬ ns.getD (i + (c + 1)) 0 < ns.getD (best ns i c) 0 := fun z => e (decide_eq_true z)
          refine ⟨s2, some (.int ((i + (c + 1) : Nat) : Int)), ?_⟩
          simp only [best]
          rw [if_neg e']
          rfl
      · obtain ⟨s2, y, rfl⟩ := hW
        have e1 : ((j : Int) + 1 - ((i : Int) + 1)).toNat = j - i := by omega
        rw [e1]
        exact ⟨.int (best ns i (j - i)), rfl, qY i j rfl rfl hw H2 s2⟩
theorem ok_lawLeast {f : Addr} {fd : FuncData} {k : Nat} (F : Fun K "_law_least" "_law_least" sLawLeast f fd) (mr : mg "range" = none) : FnOk P w K mg base CX0 (k + 1) f fd ["_law_row_here", "_law_first", "_law_last"] spLawLeast := by
  refine F.ok scLawLeast (fun vs H Q E h => ?_) (fun cdv A outer st H vs Q E hr h => ?_)
  · obtain ⟨p, ns, i, j, rfl, _⟩ := h
    rfl
  · obtain ⟨p, ns, i, j, rfl, n12, hp, hij, hj, q⟩ := h
    refine ⟨_, pss_cons (ps_set (i := 3) scLawLeast.nd rfl (.inl rfl) (pv 1))
      (pss_cons (ps_for PassesOwn.never rfl (pi_range2 (by rfl) mr (pa_cons (pv 1) (pa_cons (pe_op op_add (pv 2) pe_int) pa_nil))) (pg_name (i := 4) scLawLeast.nd rfl (.inl rfl))
        (pss_one (ps_if (pt_cmpR op_lt (pe_ix ix_tup (pv 0) (pv 4) (fun _ _ => rfl)) (pe_ix ix_tup (pv 0) (pv 3) (fun _ _ => rfl)) (nomark _)) (pss_one (ps_set (i := 3) scLawLeast.nd rfl (.inl rfl) (pv 4))) pss_nil)))
      (pss_one (ps_ret (pv 3)))), ?_⟩
    refine ⟨.int i, rfl, .int i, rfl, .int j, rfl, j, 1, rfl, rfl, _, _, rfl, ⟨by omega, by omega, by omega, by omega⟩, for_range (lo := (i : Int)) (n := ((j : Int) + 1 - (i : Int)).toNat) (fun c σ H2 => H2 = H ∧ ∃ y, σ = [some (.ref p), some (.int i), some (.int j), some (.int (best ns i (c - 1))), y]) ⟨rfl, none, rfl⟩ (fun c σ H2 hc hW => ?_) (fun σ H2 hW => ?_)⟩
    · obtain ⟨rfl, y, rfl⟩ := hW
      have hc' : c < j + 1 - i := by omega
      have b := best_le ns i (c - 1)
      have e1 : (i : Int) + c = ((i + c : Nat) : Int) := by omega
      rw [e1]
      refine ⟨.ref p, rfl, .int ((i + c : Nat) : Int), rfl, p, _, _, _, rfl, rfl, .inl (.inl hp), getD_at (by omega), .ref p, rfl, .int (best ns i (c - 1)), rfl, p, _, _, _, rfl, rfl, .inl (.inl hp), getD_at (by omega), _, _, rfl, rfl, _, rfl, ite2 (fun e => ?_) (fun e => ?_)⟩
      · have e' := of_decide_eq_true e
        refine ⟨.int ((i + c : Nat) : Int), rfl, rfl, some (.int ((i + c : Nat) : Int)), ?_⟩
        cases c with
        | zero =>
          exact absurd e' (Int.lt_irrefl _)
        | succ c =>
          have z : best ns i (c + 1) = i + (c + 1) := by
            simp only [best]
            exact if_pos e'
          show _ = [some (V.ref p), some (V.int i), some (V.int j), some (V.int (best ns i (c + 1))), _]
          rw [z]
          rfl
      · have e' : ¬ ns.getD (i + c) 0 < ns.getD (best ns i (c - 1)) 0 := fun z => e (decide_eq_true z)
        refine ⟨rfl, some (.int ((i + c : Nat) : Int)), ?_⟩
        cases c with
        | zero => rfl
        | succ c =>
          have z : best ns i (c + 1) = best ns i c := by
            simp only [best]
            exact if_neg e'
          show _ = [some (V.ref p), some (V.int i), some (V.int j), some (V.int (best ns i (c + 1))), _]
          rw [z]
          rfl
    · obtain ⟨rfl, y, rfl⟩ := hW
      have e1 : ((j : Int) + 1 - (i : Int)).toNat - 1 = j - i := by omega
      rw [e1]
      exact ⟨.int (best ns i (j - i)), rfl, q⟩
theorem ok_lawWin {f : Addr} {fd : FuncData} {k : Nat} (F : Fun K "_law_is_window" "_law_is_window" sLawWin f fd) (mi : mg "isinstance" = none) (mb : mg "bool" = none) (mint : mg "int" = none) : FnOk P w K mg base CX0 (k + 1) f fd ["_law_many", "_law_first", "_law_last"] spWin := by
  refine F.ok scLawWin (fun vs H Q E h => ?_) (fun cdv A outer st H vs Q E hr h => ?_)
  · obtain ⟨m, v, u, rfl, _⟩ := h
    rfl
  · obtain ⟨m, v, u, rfl, kv, ku, q⟩ := h
    refine ⟨_, pss_cons (ps_for PassesOwn.never rfl (pi_tup (pe_tup (pa_cons (pv 1) (pa_cons (pv 2) pa_nil)))) (pg_name (i := 3) scLawWin.nd rfl (.inl rfl))
        (pss_one (ps_if (PW.pt (pw_or (pt_val (pe_callB call_isi (by rfl) mi (by decide +kernel) (pa_cons (pv 3) (pa_cons (pe_bltn (v := .ty "bool") (by rfl) mb (by decide +kernel) rfl) pa_nil))))
            (pw_or (pt_not (pt_val (pe_callB call_isi (by rfl) mi (by decide +kernel) (pa_cons (pv 3) (pa_cons (pe_bltn (v := .ty "int") (by rfl) mint (by decide +kernel) rfl) pa_nil)))))
            (pw_or1 (pt_not (pt_chain op_le op_lt pe_int (pv 3) (pv 0)))))))
          (pss_one (ps_ret pe_bl)) pss_nil)))
      (pss_one (ps_ret (pe_cmpR op_le (pv 1) (pv 2) (nomark _)))), ?_⟩
    refine ⟨v, rfl, u, rfl, by show 2 ≤ sizeLine; decide, fun t nt => ⟨t, rfl, ⟨_, .inl (.inl upd_same)⟩, ?_⟩⟩
    have s1 := same_upd (o := .tup [v, u]) nt
    have e1 : (upd H t (.tup [v, u])) t = some (.tup [v, u]) := upd_same
    generalize upd H t (.tup [v, u]) = H1 at *
    have no : ∀ x, x = v ∨ x = u → plc m x = false → Q (.bl false) H1 := by
      intro x hx hp
      have z : win m v u = false := by
        unfold win
        rcases hx with rfl | rfl
        · rw [hp, Bool.false_and]
        · rw [hp, Bool.false_and, Bool.and_false]
      have q' := q H1 s1
      rw [z] at q'
      exact q'
    refine for_tup (xs := [v, u]) (fun i σ H2 => H2 = H1 ∧ (∃ y, σ = [some (.int m), some v, some u, y]) ∧ ∀ k x, k < i → [v, u][k]? = some x → plc m x = true) ⟨rfl, ⟨none, rfl⟩, fun k x z => absurd z (Nat.not_lt_zero _)⟩ (fun i σ H2 _ p => by rw [p.1]; exact .inl (.inl e1)) (fun i x σ H2 hx p => ?_) (fun σ H2 p => ?_)
    · obtain ⟨rfl, ⟨y, rfl⟩, all⟩ := p
      have hxm : x = v ∨ x = u := by
        have z := List.mem_of_getElem? hx
        simpa using z
      have kx : Kd H2 x := by
        rcases hxm with z | z
        · rw [z]
          exact kv.keep s1
        · rw [z]
          exact ku.keep s1
      have more : plc m x = true → (H2 = H2 ∧ (∃ y, [some (.int m), some v, some u, some x] = [some (.int m), some v, some u, y]) ∧ ∀ k z, k < i + 1 → [v, u][k]? = some z → plc m z = true) := by
        intro hp
        refine ⟨rfl, ⟨_, rfl⟩, fun k z hk hz => ?_⟩
        rcases Nat.lt_succ_iff_lt_or_eq.mp hk with c | c
        · exact all k z c hz
        · subst c
          rw [hx] at hz
          rw [← Option.some.inj hz]
          exact hp
      obtain ⟨t2, ty2, j1, j2, _⟩ := ty_int (K := K) kx
      refine ⟨x, rfl, x, .ty "bool", .type t2, .type "bool", _, rfl, .ty _, ty2, j2, _, rfl, ite2 (fun b1 => ?_) (fun b1 => ?_)⟩
      · refine iteT (no x hxm ?_)
        cases x with
        | bl b => rfl
        | _ => cases b1
      · refine ⟨x, rfl, x, .ty "int", .type t2, .type "int", _, rfl, .ty _, ty2, j1, _, rfl, ?_⟩
        cases kx with
        | int n =>
          refine iteF ?_
          refine ⟨.int n, rfl, 0, n, rfl, rfl, _, rfl, ite2 (fun b2 => ?_) (fun b2 => ?_)⟩
          · refine ⟨.int m, rfl, n, m, rfl, rfl, _, rfl, ite2 (fun b3 => ?_) (fun b3 => ?_)⟩
            · refine no _ hxm ?_
              show (decide (0 ≤ n) && decide (n < m)) = false
              have z : decide (n < m) = false := by
                cases hz : decide (n < m) with
                | false => rfl
                | true => rw [hz] at b3; cases b3
              rw [z, Bool.and_false]
            · refine more ?_
              show (decide (0 ≤ n) && decide (n < m)) = true
              have z : decide (n < m) = true := by
                cases hz : decide (n < m) with
                | true => rfl
                | false => rw [hz] at b3; exact absurd rfl b3
              rw [b2, z]
              rfl
          · refine ⟨_, rfl, iteT (no _ hxm ?_)⟩
            show (decide (0 ≤ n) && decide (n < m)) = false
            rw [Bool.eq_false_iff.mpr b2, Bool.false_and]
        | bl b => exact absurd rfl b1
        | non => exact iteT (iteT (no _ hxm rfl))
        | str z => exact iteT (iteT (no _ hxm rfl))
        | lst e => exact iteT (iteT (no _ hxm rfl))
        | tup e => exact iteT (iteT (no _ hxm rfl))
        | dct e => exact iteT (iteT (no _ hxm rfl))
    · obtain ⟨rfl, ⟨y, rfl⟩, all⟩ := p
      have h1 : plc m v = true := all 0 v (by show 0 < 2; decide) rfl
      have h2 : plc m u = true := all 1 u (by show 1 < 2; decide) rfl
      obtain ⟨i, rfl, hi⟩ := plc_int h1
      obtain ⟨j, rfl, hj⟩ := plc_int h2
      refine ⟨.int i, rfl, .int j, rfl, i, j, rfl, rfl, ?_⟩
      have q' := q H2 s1
      unfold win at q'
      rw [h1, h2, Bool.true_and, Bool.true_and] at q'
      exact q'
/-- the call in a try: the answer, or a list that holds both values -/
def spWinErr (fL : Addr) : Sp := fun vs H Q _ => ∃ (p : Addr) (ns : List Int) (f l : V), vs = [.ref fL, .ref p, f, l] ∧ ns.length ≤ 12 ∧ H p = some (.tup (ns.map V.int)) ∧ Kd H f ∧ Kd H l ∧
  (∀ i j : Nat, f = .int i → l = .int j → win ns.length f l = true → ∀ H', Same H H' → Q (.int (best ns i (j - i))) H') ∧
  (win ns.length f l = false → ∀ H' r t, Same H H' → H' t = some (.tup [f, l]) → H' r = some (.lst [.str "no window", .ref t]) → Q (.ref r) H')
theorem ok_winErr {f fL C CE CI CV fI : Addr} {fd fdL : FuncData} {k : Nat} (F : Fun K "_law_window_error" "_law_window_error" sWinErr f fd) (T : PySem.NoWindowX.NoWindowTxt K mg C fI) (XD : ExcD K C)
    (GL : FnOk P w K mg base (L2.CX P w) k fL fdL ["row", "first", "last"] (spLeast C)) (kL : PySem.W.keepIn K (.ref fL) = true) (bL : Binds K fdL ["row", "first", "last"] [])
    (gE : mg "LeastError" = some (.ref CE)) (gI : mg "NoIndex" = some (.ref CI)) (gV : mg "NoVersion" = some (.ref CV)) (mi : mg "isinstance" = none) (mL : mg "LookupError" = none)
    (no3 : PySem.W.kitAny K (.ref C) [.ref CE, .ref CI, .ref CV] = some false) (yes1 : PySem.W.kitOne K (.ref C) (.type "LookupError") = some true) : FnOk P w K mg base CX0 (k + 1) f fd ["_law_call", "_law_thing", "_law_first", "_law_last"] (spWinErr fL) := by
  refine F.ok scWinErr (fun vs H Q E h => ?_) (fun cdv A outer st H vs Q E hr h => ?_)
  · obtain ⟨p, ns, v, u, rfl, _⟩ := h
    rfl
  · obtain ⟨p, ns, v, u, rfl, n12, hp, kv, ku, qY, qN⟩ := h
    refine ⟨_, pss_one (ps_try_as (i := 4) (tb := fun W => tRet (tCallLS 0 fL (spLeast C) (WE W) (tCons (tVar 1) (tCons (tVar 2) (tCons (tVar 3) tNil)))))
        (ts := fun a cls d => tSeq (tIfS (tOr (tTest (tCB (rIsXT K C a cls d) (tCons (tVar 4) (tCons (tTup (tCons (tC (.ref CE)) (tCons (tC (.ref CI)) (tCons (tC (.ref CV)) tNil)))) tNil)))) (tNot (tTest (tCB (rIsX K C a cls d) (tCons (tVar 4) (tCons (tC (.ty "LookupError")) tNil)))))) (tRet (tC (.str "other"))) tNext)
          (tRet (tLst (tCons (tC (.str "no window")) (tCons (tByNoWindow C a cls d (tVar 4)) tNil)))))
        (Wout := fun _ _ _ _ => False) rfl rfl scWinErr.nd rfl rfl ⟨rfl, by decide, Or.inl T.gC⟩ takes0
        (fun W pn xe tk _ => pss_one (ps_ret (by exact (pe_callLS (i := 0) GL hr rfl (.inl rfl) kL bL (fun σ => passAt tk σ) (by exact (pa_cons (pv 1) (pa_cons (pv 2) (pa_cons (pv 3) pa_nil))))))))
        (fun a oe cls d pn hz hf => ?suite)), ?_⟩
    case suite =>
      exact pss_cons (ps_if (PW.pt (pw_or (pt_val (pe_callB (call_isXT XD hz hf) (by rfl) mi (by decide +kernel) (pa_cons (pv 4) (pa_cons (pe_tup (pa_cons (pe_glob (v := .ref CE) rfl gE rfl) (pa_cons (pe_glob (v := .ref CI) rfl gI rfl) (pa_cons (pe_glob (v := .ref CV) rfl gV rfl) pa_nil)))) pa_nil))))
          (pw_or1 (pt_not (pt_val (pe_callB (call_isX XD hz hf) (by rfl) mi (by decide +kernel) (pa_cons (pv 4) (pa_cons (pe_bltn (v := .ty "LookupError") (by rfl) mL (by decide +kernel) rfl) pa_nil))))))))
          (pss_one (ps_ret pe_str)) pss_nil)
        (pss_one (ps_ret (pe_lst (pa_cons pe_str (pa_cons (pe_byNoWindow T hz hf (pv 4)) pa_nil)))))
    refine ⟨rfl, .ref p, rfl, v, rfl, u, rfl, p, ns, v, u, rfl, n12, hp, kv, ku, qY, fun hw H1 t d s1 ht hd => ?_⟩
    refine ⟨true, T.te, fun _ a0 _ => ?_, fun z => Bool.noConfusion z⟩
    refine ⟨.ref a0, rfl, by show 3 ≤ sizeLine; decide, fun c nc => ?_⟩
    have s2 := same_upd (o := .tup [.ref CE, .ref CI, .ref CV]) nc
    refine ⟨c, _, [.ref CE, .ref CI, .ref CV], false, d, _, rfl, rfl, upd_same, .cons (.own _) (.cons (.own _) (.cons (.own _) .nil)), rfl, s2 _ _ hd, no3, _, rfl, iteF ?_⟩
    refine ⟨.ref a0, rfl, .ty "LookupError", .type "LookupError", true, d, _, rfl, rfl, .ty _, rfl, s2 _ _ hd, yes1, _, rfl, iteF ?_⟩
    refine ⟨.ref a0, rfl, rfl, rfl, d, _, rfl, s2 _ _ hd, by show 2 ≤ sizeLine; decide, fun r nr => ?_⟩
    have s3 := same_upd (o := .lst [.str "no window", .ref t]) nr
    exact qN hw _ r t (s1.trans (s2.trans s3)) (s3 _ _ (s2 _ _ ht)) upd_same
end
end Lw
namespace Lw
open PySem PySem.Spec PyProof.Rows L2 Gd
abbrev sLaw : Stmt := topS 19
abbrev lawN : List Str := ["_law_script", "_law_stream_here", "_law_turn", "_law_row_here", "_law_shown", "_law_some", "_law_first", "_law_last", "_law_due"]
theorem scLaw : FnScope lawN ["_law_script"] (defScope sLaw) := ⟨rfl, rfl, rfl, by decide +kernel, rfl, by decide +kernel, by decide +kernel⟩
def spLaw (K : PySem.W.Frag) : Sp := fun vs H Q _ => ∃ (sc : Addr) (ns : List Int), vs = [.ref sc] ∧ SqL K H sc (ns.map V.int) ∧ ns.length ≤ 63 ∧ ∀ H', Q (.bl true) H'
abbrev av0 : Addr → Prop := fun _ => False
theorem Dv.less {av av' : Addr → Prop} {H : Hp} {v : V} {d : PyData} (k : ∀ b, av' b → av b) (h : Dv av H v d) : Dv av' H v d := by
  induction h with
  | non => exact .non
  | bl b => exact .bl b
  | int i => exact .int i
  | str x => exact .str x
  | lst e n l _ ih => exact .lst e (fun z => n (k _ z)) l ih
  | tup e n l _ ih => exact .tup e (fun z => n (k _ z)) l ih
  | dct e n p => exact .dct e (fun z => n (k _ z)) p
theorem It.less {av : Addr → Prop} {H : Hp} {v : V} (x : It av H v) : It av0 H v := by
  obtain ⟨d, h, s⟩ := x
  exact ⟨d, Dv.less (fun _ z => z.elim) h, s⟩
theorem Sm.navT {H : Hp} {s a b p : Addr} {n : Nat} {xs : List V} (x : Sm H s a b n) (z : H p = some (.tup xs)) : ¬ Av s a p := fun y => by
  obtain ⟨⟨_, _, _, z1, z2, _⟩, _⟩ := id x
  rcases y with y | y
  · rw [y, z1] at z
    cases z
  · rw [y, z2] at z
    cases z
/-- what repr asks of data -/
structure Fits (d : PyData) : Prop where
  sh : d.showable = true
  ln : d.shown.length ≤ sizeLine
  dp : d.depth ≤ 60
theorem fits_of {d : PyData} (h1 : d.showable = true) (h2 : d.leavesShort 100 = true) (h3 : d.weight ≤ 30000) (h4 : d.depth ≤ 60) : Fits d := by
  refine ⟨h1, ?_, h4⟩
  have z := PyData.shown_le 100 (by decide) _ h2
  exact Nat.le_trans z (Nat.le_of_lt (Nat.lt_of_le_of_lt (by omega : _ ≤ 102 * 30000 + 100) (by decide)))
theorem Small.fits {d : PyData} (s : Small 200 d) : Fits d := fits_of s.sh s.lv (by have := s.wt; omega) (by have := s.dp; omega)
def dueD (df dl : PyData) : PyData := .list [.str "no window", .tuple [df, dl]]
theorem due_fits {df dl : PyData} (s1 : Small 200 df) (s2 : Small 200 dl) : Fits (dueD df dl) := by
  have c1 : (PyData.str "no window").leavesShort 100 = true := by decide +kernel
  have c2 : (PyData.str "no window").weight = 9 := by decide +kernel
  have w1 := s1.wt
  have w2 := s2.wt
  have d1 := s1.dp
  have d2 := s2.dp
  refine fits_of ?_ ?_ ?_ ?_
  · simp only [dueD, PyData.showable, PyData.showableAll, s1.sh, s2.sh, Bool.and_true]
  · simp only [dueD, PyData.leavesShort, PyData.leavesShortAll, s1.lv, s2.lv, Bool.and_true]
    simp only [PyData.leavesShort] at c1
    exact c1
  · simp only [dueD, PyData.weight, PyData.weightAll] at c2 ⊢
    omega
  · simp only [dueD, PyData.depth, PyData.depthAll]
    omega
theorem ints_fits {ns : List Int} (hl : ns.length ≤ 12) (hb : ∀ x ∈ ns, -1000000000 ≤ x ∧ x ≤ 1000000000) : Fits (.tuple (ns.map PyData.int)) := by
  have key : ∀ (ns : List Int), (∀ x ∈ ns, -1000000000 ≤ x ∧ x ≤ 1000000000) → PyData.showableAll (ns.map PyData.int) = true ∧ PyData.leavesShortAll 100 (ns.map PyData.int) = true ∧ PyData.weightAll (ns.map PyData.int) ≤ 201 * ns.length ∧ PyData.depthAll (ns.map PyData.int) = 0 := by
    intro ns
    induction ns with
    | nil => intro _; exact ⟨rfl, rfl, by simp [PyData.weightAll], rfl⟩
    | cons n r ih =>
      intro h
      obtain ⟨i1, i2, i3, i4⟩ := ih fun x hx => h x (List.mem_cons_of_mem _ hx)
      have hn := h n List.mem_cons_self
      obtain ⟨d, hd, s⟩ := It.int (av := av0) (H := fun _ => none) (i := n) (by omega)
      cases hd
      have w1 := s.wt
      refine ⟨?_, ?_, ?_, ?_⟩
      · rw [List.map_cons, PyData.showableAll, s.sh, i1]
        rfl
      · rw [List.map_cons, PyData.leavesShortAll, s.lv, i2]
        rfl
      · rw [List.map_cons, PyData.weightAll, List.length_cons]
        omega
      · rw [List.map_cons, PyData.depthAll, i4, PyData.depth]
        rfl
  obtain ⟨i1, i2, i3, i4⟩ := key ns hb
  refine fits_of (by rw [PyData.showable]; exact i1) (by rw [PyData.leavesShort]; exact i2) ?_ ?_
  · rw [PyData.weight]
    omega
  · rw [PyData.depth, i4]
    decide
theorem row_dv {av : Addr → Prop} {H : Hp} {p : Addr} {ns : List Int} (e : H p = some (.tup (ns.map V.int))) (n : ¬ av p) : Dv av H (.ref p) (.tuple (ns.map PyData.int)) := by
  have key : ∀ ns : List Int, Paired (Dv av H) (ns.map V.int) (ns.map PyData.int) := by
    intro ns
    induction ns with
    | nil => exact .nil
    | cons n r ih => exact .cons (.int n) ih
  exact .tup e n (Paired.length (key ns)) (paired_ix (key ns))
section
variable {P : Program} {w : World} {K : PySem.W.Frag} {mg : Str → Option Value} {base : Heap}
structure Cal (P : Program) (w : World) (K : PySem.W.Frag) (mg : Str → Option Value) (base : Heap) (k : Nat) (x : Str) (f : Addr) (fd : FuncData) (ps : List Str) (sp : Sp) : Prop where
  G : FnOk P w K mg base CX0 k f fd ps sp
  kp : PySem.W.keepIn K (.ref f) = true
  b : Binds K fd ps []
  g : mg x = some (.ref f)
theorem ok_law {f fS fR fO fW fL fE fP : Addr} {fd dS dR dO dW dL dE : FuncData} {k : Nat} (F : Fun K "law" "law" sLaw f fd)
    (CS : Cal P w K mg base k "_law_stream" fS dS ["_law_script"] (spStream K)) (CR : Cal P w K mg base k "_law_row" fR dR ["_law_stream_here", "_law_most"] spRow) (CO : Cal P w K mg base k "_law_odd" fO dO ["_law_stream_here"] spOdd)
    (CW : Cal P w K mg base k "_law_is_window" fW dW ["_law_many", "_law_first", "_law_last"] spWin) (CL : Cal P w K mg base k "_law_least" fL dL ["_law_row_here", "_law_first", "_law_last"] spLawLeast)
    (CE : Cal P w K mg base k "_law_window_error" fE dE ["_law_call", "_law_thing", "_law_first", "_law_last"] (spWinErr fP)) (gP : mg "least_place" = some (.ref fP))
    (mr : mg "range" = none) (mp : mg "repr" = none) (ml : mg "len" = none) (mli : mg "list" = none) : FnG P w K mg base CX0 (k + 1) f fd ["_law_script"] (spLaw K) := by
  refine fnG_of F scLaw (fun vs H Q E h => ?_) (fun cdv A outer st H vs Q E hr hg h => ?_)
  · obtain ⟨sc, ns, rfl, _⟩ := h
    rfl
  · obtain ⟨sc, ss, rfl, hS, hlen, q⟩ := h
    refine ⟨_, pss_cons (ps_set (i := 1) scLaw.nd rfl (.inl rfl) (pe_call CS.G hr (by rfl) CS.g CS.kp CS.b .nil pass0 (pa_cons (pv 0) pa_nil)))
      (pss_cons (ps_for PassesOwn.never rfl (pi_range1 (by rfl) mr (pa_cons pe_int pa_nil)) (pg_name (i := 2) scLaw.nd rfl (.inl rfl))
        (pss_cons (ps_set (i := 3) scLaw.nd rfl (.inl rfl) (pe_call CR.G hr (by rfl) CR.g CR.kp CR.b .nil pass0 (pa_cons (pv 1) (pa_cons pe_int pa_nil))))
        (pss_cons (ps_set (i := 4) scLaw.nd rfl (.inl rfl) (pe_callB (call_repr (av := av0) hg hr.units) (by rfl) mp (by decide +kernel) (pa_cons (pv 3) pa_nil)))
        (pss_cons (ps_set (i := 5) scLaw.nd rfl (.inl rfl) (pe_op op_cat (pe_listRg rfl (by rfl) mli (prg_1 (by rfl) mr (pe_callB call_len_seq (by rfl) ml PySem.boot_len (pa_cons (pv 3) pa_nil))))
          (pe_lst (pa_cons (pe_callB call_len_seq (by rfl) ml PySem.boot_len (pa_cons (pv 3) pa_nil)) (pa_cons (pe_un un_neg pe_int) (pa_cons pe_bl (pa_cons pe_non (pa_cons pe_str (pa_cons (pe_call CO.G hr (by rfl) CO.g CO.kp CO.b .nil pass0 (pa_cons (pv 1) pa_nil))
            (pa_cons (pe_call CO.G hr (by rfl) CO.g CO.kp CO.b .nil pass0 (pa_cons (pv 1) pa_nil)) pa_nil))))))))))
        (pss_one (ps_for PassesOwn.never rfl (pi_list (pv 5)) (pg_name (i := 6) scLaw.nd rfl (.inl rfl))
          (pss_one (ps_for PassesOwn.never rfl (pi_list (pv 5)) (pg_name (i := 7) scLaw.nd rfl (.inl rfl))
            (pss_cons (ps_set (i := 8) scLaw.nd rfl (.inl rfl) (pe_lst (pa_cons pe_str (pa_cons (pe_tup (pa_cons (pv 6) (pa_cons (pv 7) pa_nil))) pa_nil))))
            (pss_cons (ps_if (pt_val (pe_call CW.G hr (by rfl) CW.g CW.kp CW.b .nil pass0 (pa_cons (pe_callB call_len_seq (by rfl) ml PySem.boot_len (pa_cons (pv 3) pa_nil)) (pa_cons (pv 6) (pa_cons (pv 7) pa_nil)))))
              (pss_one (ps_set (i := 8) scLaw.nd rfl (.inl rfl) (pe_call CL.G hr (by rfl) CL.g CL.kp CL.b .nil pass0 (pa_cons (pv 3) (pa_cons (pv 6) (pa_cons (pv 7) pa_nil)))))) pss_nil)
            (pss_one (ps_if (PW.pt (pw_or (pt_cmpR op_ne (pe_callB (call_repr (av := av0) hg hr.units) (by rfl) mp (by decide +kernel) (pa_cons (pe_call CE.G hr (by rfl) CE.g CE.kp CE.b .nil pass0 (pa_cons (pe_glob (v := .ref fP) rfl gP rfl) (pa_cons (pv 3) (pa_cons (pv 6) (pa_cons (pv 7) pa_nil))))) pa_nil))
                (pe_callB (call_repr (av := av0) hg hr.units) (by rfl) mp (by decide +kernel) (pa_cons (pv 8) pa_nil)) (nomark _))
              (pw_or1 (pt_cmpR op_ne (pe_callB (call_repr (av := av0) hg hr.units) (by rfl) mp (by decide +kernel) (pa_cons (pv 3) pa_nil)) (pv 4) (nomark _)))))
              (pss_one (ps_ret pe_bl)) pss_nil))))))))))))
      (pss_one (ps_ret pe_bl))), ?_⟩
    have two : 2 ≤ sizeLine := by decide
    refine ⟨.ref sc, rfl, sc, ss, rfl, hS, hlen, fun H1 s a b h01 hs0 ha0 hb0 sm => ?_⟩
    refine ⟨6, rfl, by decide, by decide, for_range (n := (6 : Int).toNat) (fun i σ H2 => Sm H2 s a b (100 * i) ∧ ∃ y2 y3 y4 y5 y6 y7 y8, σ = [some (.ref sc), some (.ref s), y2, y3, y4, y5, y6, y7, y8]) ⟨sm, _, _, _, _, _, _, _, rfl⟩ (fun i σ H2 hi0 hW => ?_) (fun σ H2 hW => q H2)⟩
    obtain ⟨sm2, y2, y3, y4, y5, y6, y7, y8, rfl⟩ := hW
    have hi : i < 6 := hi0
    -- _law_row_here
    refine ⟨.ref s, rfl, s, a, b, _, 12, rfl, sm2, by omega, by decide, by decide, fun H3 p ns k3 sm3 hp r1 r2 rb => ?_⟩
    have n12 : ns.length ≤ 12 := by omega
    have np3 : ¬ Av s a p := sm3.navT hp
    have rf := ints_fits n12 rb
    -- _law_shown
    refine ⟨.ref p, rfl, .ref p, _, rfl, row_dv hp id, rf.sh, rf.ln, rf.dp, ?_⟩
    -- _law_some
    refine ⟨.ref p, rfl, p, _, rfl, .inr (.inl (.inl hp)), _, rfl, RgOk.of_le (by omega) (by rw [List.length_map]; omega) (by omega) (by omega), fun q1 n1 => ?_⟩
    have s4 := same_upd (o := .lst (rgV 0 (ns.map V.int).length)) n1
    have e4 : (upd H3 q1 (.lst (rgV 0 (ns.map V.int).length))) q1 = some (.lst (rgV 0 (ns.map V.int).length)) := upd_same
    have nq1 := sm3.nav n1
    have sm4 := sm3.keep s4
    have hp4 := s4 _ _ hp
    have k4 := k3.trans (Kp.of_same s4)
    generalize upd H3 q1 (.lst (rgV 0 (ns.map V.int).length)) = H4 at *
    refine ⟨.ref p, rfl, p, _, rfl, .inr (.inl (.inl hp4)), 1, rfl, .ref s, rfl, s, a, b, _, rfl, sm4, by omega, fun H5 v5 k5 sm5 i5 => ?_⟩
    refine ⟨.ref s, rfl, s, a, b, _, rfl, sm5, by omega, fun H6 v6 k6 sm6 i6 => ?_⟩
    have hp6 := k6 _ _ (k5 _ _ hp4 np3) np3
    have e6 := k6 _ _ (k5 _ _ e4 nq1) nq1
    have i5' := i5.keep k6
    refine ⟨by show 7 ≤ sizeLine; decide, fun l1 n7 => ?_⟩
    have s7 := same_upd (o := .lst [.int ((ns.map V.int).length : Nat), .int (-1), .bl true, .non, .str "0", v5, v6]) n7
    have e7 : (upd H6 l1 (.lst [.int ((ns.map V.int).length : Nat), .int (-1), .bl true, .non, .str "0", v5, v6])) l1 = some (.lst [.int ((ns.map V.int).length : Nat), .int (-1), .bl true, .non, .str "0", v5, v6]) := upd_same
    have nl1 := sm6.nav n7
    refine ⟨q1, l1, _, _, rfl, rfl, s7 _ _ e6, e7, ?lenA, fun L nL => ?_⟩
    case lenA =>
      rw [rgV_length, List.length_map]
      show _ + 7 ≤ _
      exact Nat.le_of_lt (small_of (by omega))
    have s8 := same_upd (o := .lst (rgV 0 (ns.map V.int).length ++ [.int ((ns.map V.int).length : Nat), .int (-1), .bl true, .non, .str "0", v5, v6])) nL
    have eL : (upd (upd H6 l1 (.lst [.int ((ns.map V.int).length : Nat), .int (-1), .bl true, .non, .str "0", v5, v6])) L (.lst (rgV 0 (ns.map V.int).length ++ [.int ((ns.map V.int).length : Nat), .int (-1), .bl true, .non, .str "0", v5, v6]))) L = some _ := upd_same
    have s68 := s7.trans s8
    have hp8 := s68 _ _ hp6
    have sm8 := sm6.keep s68
    have its : ∀ x ∈ (rgV 0 (ns.map V.int).length ++ [.int ((ns.map V.int).length : Nat), .int (-1), .bl true, .non, .str "0", v5, v6] : List V), It av0 (upd (upd H6 l1 (.lst [.int ((ns.map V.int).length : Nat), .int (-1), .bl true, .non, .str "0", v5, v6])) L (.lst (rgV 0 (ns.map V.int).length ++ [.int ((ns.map V.int).length : Nat), .int (-1), .bl true, .non, .str "0", v5, v6]))) x := by
      intro x hx
      have ll : (ns.map V.int).length ≤ 12 := by rw [List.length_map]; exact n12
      rcases List.mem_append.mp hx with z | z
      · unfold rgV at z
        obtain ⟨n, hn, rfl⟩ := List.mem_map.mp z
        have := List.mem_range.mp hn
        exact It.int (by omega)
      · simp only [List.mem_cons, List.not_mem_nil, or_false] at z
        rcases z with rfl | rfl | rfl | rfl | rfl | rfl | rfl
        · exact It.int (by omega)
        · exact It.int (by decide)
        · exact ⟨_, .bl true, ⟨rfl, rfl, by decide, by decide⟩⟩
        · exact ⟨_, .non, ⟨rfl, rfl, by decide, by decide⟩⟩
        · exact ⟨_, .str _, ⟨rfl, by decide +kernel, by decide +kernel, by decide⟩⟩
        · exact (i5'.keep (Kp.of_same s68)).less
        · exact (i6.keep (Kp.of_same s68)).less
    generalize upd (upd H6 l1 (.lst [.int ((ns.map V.int).length : Nat), .int (-1), .bl true, .non, .str "0", v5, v6])) L (.lst (rgV 0 (ns.map V.int).length ++ [.int ((ns.map V.int).length : Nat), .int (-1), .bl true, .non, .str "0", v5, v6])) = H8 at *
    generalize (rgV 0 (ns.map V.int).length ++ [.int ((ns.map V.int).length : Nat), .int (-1), .bl true, .non, .str "0", v5, v6] : List V) = xs at *
    -- for _law_first in _law_some
    refine ⟨.ref L, rfl, L, rfl, ⟨_, .inl (.inl eL)⟩, for_list (xs := xs) (fun _ σ H9 => Same H8 H9 ∧ ∃ y2 y6 y7 y8, σ = [some (.ref sc), some (.ref s), y2, some (.ref p), some (.str (PyData.tuple (ns.map PyData.int)).shown), some (.ref L), y6, y7, y8]) ⟨Same.refl H8, _, _, _, _, rfl⟩ (fun _ σ H9 _ p => .inl (.inl (p.1 _ _ eL))) (fun _ f σ H9 hf0 pf => ?_) (fun σ H9 pf => ?_)⟩
    case refine_2 =>
      obtain ⟨g9, z2, z6, z7, z8, rfl⟩ := pf
      exact ⟨(sm8.keep g9).mono (by omega), _, _, _, _, _, _, _, rfl⟩
    obtain ⟨g9, z2, z6, z7, z8, rfl⟩ := pf
    obtain ⟨df, dvf, sf⟩ := its f (List.mem_of_getElem? hf0)
    -- for _law_last in _law_some
    refine ⟨.ref L, rfl, L, rfl, ⟨_, .inl (.inl (g9 _ _ eL))⟩, for_list (xs := xs) (fun _ σ H10 => Same H8 H10 ∧ ∃ y2 y7 y8, σ = [some (.ref sc), some (.ref s), y2, some (.ref p), some (.str (PyData.tuple (ns.map PyData.int)).shown), some (.ref L), some f, y7, y8]) ⟨g9, _, _, _, rfl⟩ (fun _ σ H10 _ p => .inl (.inl (p.1 _ _ eL))) (fun _ l σ H10 hl0 pl => ?_) (fun σ H10 pl => ?_)⟩
    case refine_2 =>
      obtain ⟨g10, w2, w7, w8, rfl⟩ := pl
      exact ⟨g10, _, _, _, _, rfl⟩
    obtain ⟨g10, w2, w7, w8, rfl⟩ := pl
    obtain ⟨dl, dvl, sl⟩ := its l (List.mem_of_getElem? hl0)
    -- _law_due
    refine ⟨f, rfl, l, rfl, two, fun t nt => ⟨two, fun d nd => ?_⟩⟩
    have s11 := same_upd (o := .tup [f, l]) nt
    have s12 := same_upd (o := .lst [.str "no window", .ref t]) nd
    have et : (upd (upd H10 t (.tup [f, l])) d (.lst [.str "no window", .ref t])) t = some (.tup [f, l]) := s12 _ _ upd_same
    have ed : (upd (upd H10 t (.tup [f, l])) d (.lst [.str "no window", .ref t])) d = some (.lst [.str "no window", .ref t]) := upd_same
    have g12 : Same H8 (upd (upd H10 t (.tup [f, l])) d (.lst [.str "no window", .ref t])) := g10.trans (s11.trans s12)
    generalize upd (upd H10 t (.tup [f, l])) d (.lst [.str "no window", .ref t]) = H12 at *
    have kf : Kd H12 f := Dv.kd (dvf.keep (Kp.of_same g12))
    have kl : Kd H12 l := Dv.kd (dvl.keep (Kp.of_same g12))
    have hp12 := g12 _ _ hp8
    refine ⟨.ref p, rfl, p, _, rfl, .inr (.inl (.inl hp12)), f, rfl, l, rfl, _, f, l, rfl, kf, kl, fun H13 s13 => ⟨_, rfl, ?_⟩⟩
    have el : (((ns.map V.int).length : Nat) : Int) = ns.length := by rw [List.length_map]
    rw [el]
    have g13 := g12.trans s13
    have hp13 := g13 _ _ hp8
    cases hw : win ns.length f l with
    | true =>
      refine iteT ?_
      obtain ⟨i1, j1, rfl, rfl, hij, hj⟩ := win_ints hw
      refine ⟨.ref p, rfl, .int i1, rfl, .int j1, rfl, p, ns, i1, j1, rfl, n12, hp13, hij, by omega, ?_⟩
      have bl := best_le ns i1 (j1 - i1)
      obtain ⟨db, dvb, sb⟩ := It.int (av := av0) (H := H13) (i := ((best ns i1 (j1 - i1) : Nat) : Int)) (by omega)
      cases dvb
      have fb := sb.fits
      refine ⟨.ref p, rfl, .int i1, rfl, .int j1, rfl, p, ns, .int i1, .int j1, rfl, n12, hp13, kf.keep s13, kl.keep s13, fun i2 j2 e1 e2 _ H14 s14 => ?_, fun z => by rw [hw] at z; cases z⟩
      have e1' : i1 = i2 := Int.ofNat.inj (V.int.inj e1)
      have e2' : j1 = j2 := Int.ofNat.inj (V.int.inj e2)
      subst e1' e2'
      refine ⟨_, _, rfl, .int _, fb.sh, fb.ln, fb.dp, ?_⟩
      refine ⟨.int (best ns i1 (j1 - i1)), rfl, _, _, rfl, .int _, fb.sh, fb.ln, fb.dp, ?_⟩
      refine ⟨rfl, _, rfl, iteNS rfl ?_⟩
      refine ⟨.ref p, rfl, .ref p, _, rfl, row_dv ((g13.trans s14) _ _ hp8) id, rf.sh, rf.ln, rf.dp, ?_⟩
      refine ⟨_, rfl, rfl, _, rfl, iteNS rfl ?_⟩
      exact ⟨g13.trans s14, _, _, _, rfl⟩
    | false =>
      refine iteF ?_
      have fd := due_fits sf sl
      refine ⟨.ref p, rfl, f, rfl, l, rfl, p, ns, f, l, rfl, n12, hp13, kf.keep s13, kl.keep s13, fun i2 j2 e1 e2 z => (by rw [hw] at z; cases z), fun _ H14 r t2 s14 et2 er => ?_⟩
      have g14 := g13.trans s14
      have dv1 : Dv av0 H14 (.ref r) (dueD df dl) := .lst er id rfl (paired_ix (.cons (.str _) (.cons (.tup et2 id rfl (paired_ix (.cons (dvf.keep (Kp.of_same g14)) (.cons (dvl.keep (Kp.of_same g14)) .nil)))) .nil)))
      have dv2 : Dv av0 H14 (.ref d) (dueD df dl) := .lst (s14 _ _ (s13 _ _ ed)) id rfl (paired_ix (.cons (.str _) (.cons (.tup (s14 _ _ (s13 _ _ et)) id rfl (paired_ix (.cons (dvf.keep (Kp.of_same g14)) (.cons (dvl.keep (Kp.of_same g14)) .nil)))) .nil)))
      refine ⟨_, _, rfl, dv1, fd.sh, fd.ln, fd.dp, ?_⟩
      refine ⟨.ref d, rfl, _, _, rfl, dv2, fd.sh, fd.ln, fd.dp, ?_⟩
      refine ⟨rfl, _, rfl, iteNS rfl ?_⟩
      refine ⟨.ref p, rfl, .ref p, _, rfl, row_dv (g14 _ _ hp8) id, rf.sh, rf.ln, rf.dp, ?_⟩
      refine ⟨_, rfl, rfl, _, rfl, iteNS rfl ?_⟩
      exact ⟨g14, _, _, _, rfl⟩
end
end Lw
namespace Lw
open PySem PySem.Spec PyProof.Rows L2 Gd
theorem exm_own {K : PySem.W.Frag} {S : Addr} (h1 : PySem.W.subIn K (.ref S) (.type "BaseException") = some true) (h2 : PySem.W.hasDictIn K S = true) (h3 : PySem.W.typeIn K (.ref S) = some (.type "type")) (h4 : PySem.W.subIn K (.ref S) (.ref S) = some true) :
    PySem.W.exmOne K (.ref S) (.ref S) = some true := PySem.W.exm_ref h1 h2 h3 h4
theorem all_mk {l : PySem.W.OpenLaw} {w : World} {K : PySem.W.Frag} {h : Heap} {mg : Str → Option Value} {fa f1 f2 f3 f4 f5 f6 f7 f8 f9 f10 f11 f12 : Addr} (X : K.In h) (G : h.Ns mainGlobals mg) (hfa : mg "law" = some (.ref fa))
    {od1 an1 : Option Addr} {sl1 : Array (Option Value)} {oc1 kV1 dc1 pm1 cd1 ct1 : Value}
    {od2 an2 : Option Addr} {sl2 : Array (Option Value)} {oc2 kV2 dc2 pm2 cd2 ct2 : Value}
    {od3 an3 : Option Addr} {sl3 : Array (Option Value)} {oc3 kV3 dc3 pm3 cd3 ct3 : Value}
    {od4 an4 : Option Addr} {sl4 : Array (Option Value)} {oc4 kV4 dc4 pm4 cd4 ct4 : Value}
    {od5 an5 : Option Addr} {sl5 : Array (Option Value)} {oc5 kV5 dc5 pm5 cd5 ct5 : Value}
    {od6 an6 : Option Addr} {sl6 : Array (Option Value)} {oc6 kV6 dc6 pm6 cd6 ct6 : Value}
    {od7 an7 : Option Addr} {sl7 : Array (Option Value)} {oc7 kV7 dc7 pm7 cd7 ct7 : Value}
    {od8 an8 : Option Addr} {sl8 : Array (Option Value)} {oc8 kV8 dc8 pm8 cd8 ct8 : Value}
    {od9 an9 : Option Addr} {sl9 : Array (Option Value)} {oc9 kV9 dc9 pm9 cd9 ct9 : Value}
    {od10 an10 : Option Addr} {sl10 : Array (Option Value)} {oc10 kV10 dc10 pm10 cd10 ct10 : Value}
    {od11 an11 : Option Addr} {sl11 : Array (Option Value)} {oc11 kV11 dc11 pm11 cd11 ct11 : Value}
    {od12 an12 : Option Addr} {sl12 : Array (Option Value)} {oc12 kV12 dc12 pm12 cd12 ct12 : Value}
    {C CE CI CV fI : Addr} {nm qn : Str} {N : Addr} {bs : List Value} {sn : List Str} {sub : List Value} {ab : Bool} {col : Option Bool} {dd : Option Addr} {m0 m1 m2 m3 m5 : Option Value} {odI anI : Option Addr} {slI : Array (Option Value)} {ocI dcI pmI cdI ctI : Value} {p1 p2 q1 q2 q3 q4 : Pos}
    (a1 : PySem.W.nsIn K mainGlobals "is_whole" = some (some (.ref f1))) (l1 : K.lookup f1 = some ⟨oc1, od1, .func (PySem.W.fnOf "is_whole" "is_whole" (defArgs sWhole) (defBody sWhole) (defScope sWhole) .none kV1 dc1 pm1 an1 cd1 ct1), sl1⟩) (c1 : PySem.W.codeIn K cd1 "is_whole" = true) (k1 : PySem.W.keepIn K (.ref f1) = true)
    (a2 : PySem.W.nsIn K mainGlobals "is_place" = some (some (.ref f2))) (l2 : K.lookup f2 = some ⟨oc2, od2, .func (PySem.W.fnOf "is_place" "is_place" (defArgs sPlace) (defBody sPlace) (defScope sPlace) .none kV2 dc2 pm2 an2 cd2 ct2), sl2⟩) (c2 : PySem.W.codeIn K cd2 "is_place" = true) (k2 : PySem.W.keepIn K (.ref f2) = true)
    (a3 : PySem.W.nsIn K mainGlobals "is_window" = some (some (.ref f3))) (l3 : K.lookup f3 = some ⟨oc3, od3, .func (PySem.W.fnOf "is_window" "is_window" (defArgs sWin) (defBody sWin) (defScope sWin) .none kV3 dc3 pm3 an3 cd3 ct3), sl3⟩) (c3 : PySem.W.codeIn K cd3 "is_window" = true) (k3 : PySem.W.keepIn K (.ref f3) = true)
    (a4 : PySem.W.nsIn K mainGlobals "least_place" = some (some (.ref f4))) (l4 : K.lookup f4 = some ⟨oc4, od4, .func (PySem.W.fnOf "least_place" "least_place" (defArgs sLeast) (defBody sLeast) (defScope sLeast) .none kV4 dc4 pm4 an4 cd4 ct4), sl4⟩) (c4 : PySem.W.codeIn K cd4 "least_place" = true) (k4 : PySem.W.keepIn K (.ref f4) = true)
    (a5 : PySem.W.nsIn K mainGlobals "_law_stream" = some (some (.ref f5))) (l5 : K.lookup f5 = some ⟨oc5, od5, .func (PySem.W.fnOf "_law_stream" "_law_stream" (defArgs sStream) (defBody sStream) (defScope sStream) .none kV5 dc5 pm5 an5 cd5 ct5), sl5⟩) (c5 : PySem.W.codeIn K cd5 "_law_stream" = true) (k5 : PySem.W.keepIn K (.ref f5) = true)
    (a6 : PySem.W.nsIn K mainGlobals "_law_draw" = some (some (.ref f6))) (l6 : K.lookup f6 = some ⟨oc6, od6, .func (PySem.W.fnOf "_law_draw" "_law_draw" (defArgs sDraw) (defBody sDraw) (defScope sDraw) .none kV6 dc6 pm6 an6 cd6 ct6), sl6⟩) (c6 : PySem.W.codeIn K cd6 "_law_draw" = true) (k6 : PySem.W.keepIn K (.ref f6) = true)
    (a7 : PySem.W.nsIn K mainGlobals "_law_odd" = some (some (.ref f7))) (l7 : K.lookup f7 = some ⟨oc7, od7, .func (PySem.W.fnOf "_law_odd" "_law_odd" (defArgs sOdd) (defBody sOdd) (defScope sOdd) .none kV7 dc7 pm7 an7 cd7 ct7), sl7⟩) (c7 : PySem.W.codeIn K cd7 "_law_odd" = true) (k7 : PySem.W.keepIn K (.ref f7) = true)
    (a8 : PySem.W.nsIn K mainGlobals "_law_row" = some (some (.ref f8))) (l8 : K.lookup f8 = some ⟨oc8, od8, .func (PySem.W.fnOf "_law_row" "_law_row" (defArgs sRow) (defBody sRow) (defScope sRow) .none kV8 dc8 pm8 an8 cd8 ct8), sl8⟩) (c8 : PySem.W.codeIn K cd8 "_law_row" = true) (k8 : PySem.W.keepIn K (.ref f8) = true)
    (a9 : PySem.W.nsIn K mainGlobals "_law_least" = some (some (.ref f9))) (l9 : K.lookup f9 = some ⟨oc9, od9, .func (PySem.W.fnOf "_law_least" "_law_least" (defArgs sLawLeast) (defBody sLawLeast) (defScope sLawLeast) .none kV9 dc9 pm9 an9 cd9 ct9), sl9⟩) (c9 : PySem.W.codeIn K cd9 "_law_least" = true) (k9 : PySem.W.keepIn K (.ref f9) = true)
    (a10 : PySem.W.nsIn K mainGlobals "_law_is_window" = some (some (.ref f10))) (l10 : K.lookup f10 = some ⟨oc10, od10, .func (PySem.W.fnOf "_law_is_window" "_law_is_window" (defArgs sLawWin) (defBody sLawWin) (defScope sLawWin) .none kV10 dc10 pm10 an10 cd10 ct10), sl10⟩) (c10 : PySem.W.codeIn K cd10 "_law_is_window" = true) (k10 : PySem.W.keepIn K (.ref f10) = true)
    (a11 : PySem.W.nsIn K mainGlobals "_law_window_error" = some (some (.ref f11))) (l11 : K.lookup f11 = some ⟨oc11, od11, .func (PySem.W.fnOf "_law_window_error" "_law_window_error" (defArgs sWinErr) (defBody sWinErr) (defScope sWinErr) .none kV11 dc11 pm11 an11 cd11 ct11), sl11⟩) (c11 : PySem.W.codeIn K cd11 "_law_window_error" = true) (k11 : PySem.W.keepIn K (.ref f11) = true)
    (a12 : PySem.W.nsIn K mainGlobals "law" = some (some (.ref f12))) (l12 : K.lookup f12 = some ⟨oc12, od12, .func (PySem.W.fnOf "law" "law" (defArgs sLaw) (defBody sLaw) (defScope sLaw) .none kV12 dc12 pm12 an12 cd12 ct12), sl12⟩) (c12 : PySem.W.codeIn K cd12 "law" = true) (k12 : PySem.W.keepIn K (.ref f12) = true)
    (z1 : PySem.W.nsIn K mainGlobals "len" = some none)
    (z2 : PySem.W.nsIn K mainGlobals "abs" = some none)
    (z3 : PySem.W.nsIn K mainGlobals "range" = some none)
    (z4 : PySem.W.nsIn K mainGlobals "sorted" = some none)
    (z5 : PySem.W.nsIn K mainGlobals "tuple" = some none)
    (z6 : PySem.W.nsIn K mainGlobals "isinstance" = some none)
    (z7 : PySem.W.nsIn K mainGlobals "list" = some none)
    (z8 : PySem.W.nsIn K mainGlobals "int" = some none)
    (z9 : PySem.W.nsIn K mainGlobals "bool" = some none)
    (z10 : PySem.W.nsIn K mainGlobals "repr" = some none)
    (z11 : PySem.W.nsIn K mainGlobals "LookupError" = some none)
    (aC : PySem.W.nsIn K mainGlobals "NoWindow" = some (some (.ref C)))
    (xL : K.lookup C = some (excClassObj nm qn C N bs PySem.NoWindowX.exTl true sn sub ab col dd m0 m1 m2 m3 m5 "LookupError.__new__"))
    (sa : PySem.W.findIn K (.ref C) "__setattr__" = some (some (.builtin "object.__setattr__")))
    (ga : PySem.W.findIn K (.ref C) "__getattribute__" = some (some (.builtin "BaseException.__getattribute__")))
    (gg : PySem.W.findIn K (.ref C) "__getattr__" = some none)
    (nb : PySem.W.findIn K (.ref C) "value" = some none)
    (aI : PySem.W.findIn K (.ref C) "__init__" = some (some (.ref fI)))
    (tI : PySem.W.typeIn K (.ref fI) = some (.type "function"))
    (lI : K.lookup fI = some ⟨ocI, odI, .func (PySem.W.fnOf "__init__" "NoWindow.__init__" (PySem.NoWindowX.iA p1 p2) (PySem.NoWindowX.iB q1 q2 q3 q4) PySem.NoWindowX.iS .none .none dcI pmI anI cdI ctI), slI⟩)
    (cI : PySem.W.codeIn K cdI "NoWindow.__init__" = true)
    (kC : PySem.W.keepIn K (.ref C) = true)
    (eC : PySem.W.subIn K (.ref C) (.type "BaseException") = some true)
    (tC : PySem.W.typeIn K (.ref C) = some (.type "type"))
    (hC : PySem.W.hasDictIn K C = true)
    (iC : PySem.W.isClsIn K C = true)
    (sC : PySem.W.subIn K (.ref C) (.ref C) = some true)
    (ca : PySem.W.findIn K (.ref C) "__class__" = some (some (.builtin "object.__class__")))
    (cg : PySem.W.specialIn K (.builtin "object.__class__") "__get__" = some (some (.builtin "getset_descriptor.__get__")))
    (ctk : PySem.W.takesIn K (.builtin "object.__class__") = some true)
    (co : PySem.W.mroIn K C (.type "object") = some true)
    (aE : PySem.W.nsIn K mainGlobals "LeastError" = some (some (.ref CE)))
    (aX : PySem.W.nsIn K mainGlobals "NoIndex" = some (some (.ref CI)))
    (aV : PySem.W.nsIn K mainGlobals "NoVersion" = some (some (.ref CV)))
    (no3 : PySem.W.kitAny K (.ref C) [.ref CE, .ref CI, .ref CV] = some false)
    (yes1 : PySem.W.kitOne K (.ref C) (.type "LookupError") = some true) :
    ∃ fd : FuncData, (∀ (s : Shared) (v : Value), BindsTo s fd ⟨[v], []⟩ [("_law_script", v)]) ∧ ∀ base : Heap, K.In base → base.Ns mainGlobals mg → FnG l.prog w K mg base CX0 8 fa fd ["_law_script"] (spLaw K) := by
  have e := hfa.symm.trans (PySem.W.mg_of X G a12)
  cases e
  have F1 := fun_mk (st := sWhole) l1 c1 k1
  have b1 := F1.binds (ps := ["value"]) fun _ _ _ _ _ _ us hl => match us, hl with | [_], _ => rfl
  have F2 := fun_mk (st := sPlace) l2 c2 k2
  have b2 := F2.binds (ps := ["many", "value"]) fun _ _ _ _ _ _ us hl => match us, hl with | [_, _], _ => rfl
  have F3 := fun_mk (st := sWin) l3 c3 k3
  have b3 := F3.binds (ps := ["many", "first", "last"]) fun _ _ _ _ _ _ us hl => match us, hl with | [_, _, _], _ => rfl
  have F4 := fun_mk (st := sLeast) l4 c4 k4
  have b4 := F4.binds (ps := ["row", "first", "last"]) fun _ _ _ _ _ _ us hl => match us, hl with | [_, _, _], _ => rfl
  have F5 := fun_mk (st := sStream) l5 c5 k5
  have b5 := F5.binds (ps := ["_law_script"]) fun _ _ _ _ _ _ us hl => match us, hl with | [_], _ => rfl
  have F6 := fun_mk (st := sDraw) l6 c6 k6
  have b6 := F6.binds (ps := ["_law_stream_here", "_law_many"]) fun _ _ _ _ _ _ us hl => match us, hl with | [_, _], _ => rfl
  have F7 := fun_mk (st := sOdd) l7 c7 k7
  have b7 := F7.binds (ps := ["_law_stream_here"]) fun _ _ _ _ _ _ us hl => match us, hl with | [_], _ => rfl
  have F8 := fun_mk (st := sRow) l8 c8 k8
  have b8 := F8.binds (ps := ["_law_stream_here", "_law_most"]) fun _ _ _ _ _ _ us hl => match us, hl with | [_, _], _ => rfl
  have F9 := fun_mk (st := sLawLeast) l9 c9 k9
  have b9 := F9.binds (ps := ["_law_row_here", "_law_first", "_law_last"]) fun _ _ _ _ _ _ us hl => match us, hl with | [_, _, _], _ => rfl
  have F10 := fun_mk (st := sLawWin) l10 c10 k10
  have b10 := F10.binds (ps := ["_law_many", "_law_first", "_law_last"]) fun _ _ _ _ _ _ us hl => match us, hl with | [_, _, _], _ => rfl
  have F11 := fun_mk (st := sWinErr) l11 c11 k11
  have b11 := F11.binds (ps := ["_law_call", "_law_thing", "_law_first", "_law_last"]) fun _ _ _ _ _ _ us hl => match us, hl with | [_, _, _, _], _ => rfl
  have F12 := fun_mk (st := sLaw) l12 c12 k12
  have b12 := F12.binds (ps := ["_law_script"]) fun _ _ _ _ _ _ us hl => match us, hl with | [_], _ => rfl
  have g1 := PySem.W.mg_of X G a1
  have g2 := PySem.W.mg_of X G a2
  have g3 := PySem.W.mg_of X G a3
  have g4 := PySem.W.mg_of X G a4
  have g5 := PySem.W.mg_of X G a5
  have g6 := PySem.W.mg_of X G a6
  have g7 := PySem.W.mg_of X G a7
  have g8 := PySem.W.mg_of X G a8
  have g9 := PySem.W.mg_of X G a9
  have g10 := PySem.W.mg_of X G a10
  have g11 := PySem.W.mg_of X G a11
  have g12 := PySem.W.mg_of X G a12
  have n1 := PySem.W.mg_none_of X G z1
  have n2 := PySem.W.mg_none_of X G z2
  have n3 := PySem.W.mg_none_of X G z3
  have n4 := PySem.W.mg_none_of X G z4
  have n5 := PySem.W.mg_none_of X G z5
  have n6 := PySem.W.mg_none_of X G z6
  have n7 := PySem.W.mg_none_of X G z7
  have n8 := PySem.W.mg_none_of X G z8
  have n9 := PySem.W.mg_none_of X G z9
  have n10 := PySem.W.mg_none_of X G z10
  have n11 := PySem.W.mg_none_of X G z11
  have T : PySem.NoWindowX.NoWindowTxt K mg C fI :=
    { gC := PySem.W.mg_of X G aC, cls := ⟨nm, qn, N, bs, _, sn, sub, ab, col, dd, m0, m1, m2, m3, m5, xL, by decide +kernel⟩, sa := sa, ga := ga, gg := gg, noN := nb, iC := aI, tC := tI, kC := kC, exC := eC, tyC := tC, hdC := hC, te := exm_own eC hC tC sC,
      fn := ⟨_, _, _, _, _, _, _, _, _, _, _, _, _, _, lI, cI⟩ }
  have XD : ExcD K C := ⟨iC, ga, gg, eC, ca, cg, ctk, co⟩
  refine ⟨PySem.W.fnOf "law" "law" (defArgs sLaw) (defBody sLaw) (defScope sLaw) .none kV12 dc12 pm12 an12 cd12 ct12, fun s v => .of_eq rfl, fun base _ _ => ?_⟩
  have D : FnOk l.prog w K mg base CX0 1 f6 _ ["_law_stream_here", "_law_many"] spDraw := ok_draw (k := 0) F6 n1
  have S : FnOk l.prog w K mg base CX0 1 f5 _ ["_law_script"] (spStream K) := ok_stream (k := 0) F5 n1 n2
  have O : FnOk l.prog w K mg base CX0 2 f7 _ ["_law_stream_here"] spOdd := ok_odd (k := 1) F7 D F6 b6 g6
  have R : FnOk l.prog w K mg base CX0 2 f8 _ ["_law_stream_here", "_law_most"] spRow := ok_row (k := 1) F8 D F6 b6 g6 n3 n4 n5
  have W : FnOk l.prog w K mg base CX0 1 f1 _ ["value"] spWhole := ok_whole (k := 0) F1 n6 n8 n9
  have Pl : FnOk l.prog w K mg base CX0 2 f2 _ ["many", "value"] spPlace := ok_place (k := 1) F2 W k1 b1 g1
  have Wi : FnOk l.prog w K mg base CX0 3 f3 _ ["many", "first", "last"] spWin := ok_win (k := 2) F3 Pl k2 b2 g2
  have Le : FnOk l.prog w K mg base (L2.CX l.prog w) 6 f4 _ ["row", "first", "last"] (spLeast C) := ok_least (k := 5) F4 T (Wi.mono (by decide)) k3 b3 g3 n1 n3
  have LL : FnOk l.prog w K mg base CX0 1 f9 _ ["_law_row_here", "_law_first", "_law_last"] spLawLeast := ok_lawLeast (k := 0) F9 n3
  have LW : FnOk l.prog w K mg base CX0 1 f10 _ ["_law_many", "_law_first", "_law_last"] spWin := ok_lawWin (k := 0) F10 n6 n9 n8
  have WE : FnOk l.prog w K mg base CX0 7 f11 _ ["_law_call", "_law_thing", "_law_first", "_law_last"] (spWinErr f4) := ok_winErr (k := 6) F11 T XD Le k4 b4 (PySem.W.mg_of X G aE) (PySem.W.mg_of X G aX) (PySem.W.mg_of X G aV) n6 n11 no3 yes1
  exact ok_law (k := 7) F12 ⟨S.mono (by decide), k5, b5, g5⟩ ⟨R.mono (by decide), k8, b8, g8⟩ ⟨O.mono (by decide), k7, b7, g7⟩ ⟨LW.mono (by decide), k10, b10, g10⟩ ⟨LL.mono (by decide), k9, b9, g9⟩ ⟨WE, k11, b11, g11⟩ g4 n3 n10 n1 n7
end Lw
open PySem PySem.W PyProof.Rows
set_option maxHeartbeats 0 in
theorem PySem.Challenge.cw_leastplaces_k03_least_places_of_windows_holds : PySem.Challenge.rw_leastplaces_k03_least_places_of_windows.Holds := by
  w_on; o_law; k_head; (case hw => w_witness2)
  k_fill
  refine Gd.walk_G (l := PySem.Challenge.rw_leastplaces_k03_least_places_of_windows) (n := 63) (k := 8) (x := "_law_script") (sp := Lw.spLaw) rfl (by decide) rfl ⟨rfl, by decide, by decide⟩ (fun w h Y => PySem.W.kIn_of Y) ?F (fun _ _ a ns hl _ hS => ⟨a, ns, rfl, hS, hl, fun _ => rfl⟩)
  case F =>
    intro w mg fa h KX G hmg
    refine' Lw.all_mk KX G hmg ?a1 ?l1 ?c1 ?k1 ?a2 ?l2 ?c2 ?k2 ?a3 ?l3 ?c3 ?k3 ?a4 ?l4 ?c4 ?k4 ?a5 ?l5 ?c5 ?k5 ?a6 ?l6 ?c6 ?k6 ?a7 ?l7 ?c7 ?k7 ?a8 ?l8 ?c8 ?k8 ?a9 ?l9 ?c9 ?k9 ?a10 ?l10 ?c10 ?k10 ?a11 ?l11 ?c11 ?k11 ?a12 ?l12 ?c12 ?k12 ?z1 ?z2 ?z3 ?z4 ?z5 ?z6 ?z7 ?z8 ?z9 ?z10 ?z11 ?aC ?xL ?sa ?ga ?gg ?nb ?aI ?tI ?lI ?cI ?kC ?eC ?tC ?hC ?iC ?sC ?ca ?cg ?ctk ?co ?aE ?aX ?aV ?no3 ?yes1
    (case a1 => first | k_is | kit_is | rfl); (case l1 => first | k_is | kit_is | rfl); (case c1 => first | k_is | kit_is | rfl); (case k1 => first | k_is | kit_is | rfl); (case a2 => first | k_is | kit_is | rfl); (case l2 => first | k_is | kit_is | rfl); (case c2 => first | k_is | kit_is | rfl); (case k2 => first | k_is | kit_is | rfl); (case a3 => first | k_is | kit_is | rfl); (case l3 => first | k_is | kit_is | rfl); (case c3 => first | k_is | kit_is | rfl); (case k3 => first | k_is | kit_is | rfl); (case a4 => first | k_is | kit_is | rfl); (case l4 => first | k_is | kit_is | rfl); (case c4 => first | k_is | kit_is | rfl); (case k4 => first | k_is | kit_is | rfl); (case a5 => first | k_is | kit_is | rfl); (case l5 => first | k_is | kit_is | rfl); (case c5 => first | k_is | kit_is | rfl); (case k5 => first | k_is | kit_is | rfl); (case a6 => first | k_is | kit_is | rfl); (case l6 => first | k_is | kit_is | rfl); (case c6 => first | k_is | kit_is | rfl); (case k6 => first | k_is | kit_is | rfl); (case a7 => first | k_is | kit_is | rfl); (case l7 => first | k_is | kit_is | rfl); (case c7 => first | k_is | kit_is | rfl); (case k7 => first | k_is | kit_is | rfl); (case a8 => first | k_is | kit_is | rfl); (case l8 => first | k_is | kit_is | rfl); (case c8 => first | k_is | kit_is | rfl); (case k8 => first | k_is | kit_is | rfl); (case a9 => first | k_is | kit_is | rfl); (case l9 => first | k_is | kit_is | rfl); (case c9 => first | k_is | kit_is | rfl); (case k9 => first | k_is | kit_is | rfl); (case a10 => first | k_is | kit_is | rfl); (case l10 => first | k_is | kit_is | rfl); (case c10 => first | k_is | kit_is | rfl); (case k10 => first | k_is | kit_is | rfl); (case a11 => first | k_is | kit_is | rfl); (case l11 => first | k_is | kit_is | rfl); (case c11 => first | k_is | kit_is | rfl); (case k11 => first | k_is | kit_is | rfl); (case a12 => first | k_is | kit_is | rfl); (case l12 => first | k_is | kit_is | rfl); (case c12 => first | k_is | kit_is | rfl); (case k12 => first | k_is | kit_is | rfl); (case z1 => first | k_is | kit_is | rfl); (case z2 => first | k_is | kit_is | rfl); (case z3 => first | k_is | kit_is | rfl); (case z4 => first | k_is | kit_is | rfl); (case z5 => first | k_is | kit_is | rfl); (case z6 => first | k_is | kit_is | rfl); (case z7 => first | k_is | kit_is | rfl); (case z8 => first | k_is | kit_is | rfl); (case z9 => first | k_is | kit_is | rfl); (case z10 => first | k_is | kit_is | rfl); (case z11 => first | k_is | kit_is | rfl); (case aC => first | k_is | kit_is | rfl); (case xL => first | k_is | kit_is | rfl); (case sa => first | k_is | kit_is | rfl); (case ga => first | k_is | kit_is | rfl); (case gg => first | k_is | kit_is | rfl); (case nb => first | k_is | kit_is | rfl); (case aI => first | k_is | kit_is | rfl); (case tI => first | k_is | kit_is | rfl); (case lI => first | k_is | kit_is | rfl); (case cI => first | k_is | kit_is | rfl); (case kC => first | k_is | kit_is | rfl); (case eC => first | k_is | kit_is | rfl); (case tC => first | k_is | kit_is | rfl); (case hC => first | k_is | kit_is | rfl); (case iC => first | k_is | kit_is | rfl); (case sC => first | k_is | kit_is | rfl); (case ca => first | k_is | kit_is | rfl); (case cg => first | k_is | kit_is | rfl); (case ctk => first | k_is | kit_is | rfl); (case co => first | k_is | kit_is | rfl); (case aE => first | k_is | kit_is | rfl); (case aX => first | k_is | kit_is | rfl); (case aV => first | k_is | kit_is | rfl); (case no3 => first | k_is | kit_is | rfl); (case yes1 => first | k_is | kit_is | rfl)
