import PyProof.Rows.All
import Wide.All
import OpenK.AllK
import Wide.FinOn
import PyProof.EqAt
import PyProof.EqKinds
import PyProof.TupleCall
import KE.BitLaws
import Open.SpecLaws
import KE.OsHead
import KE.OsGo
import PyProof.Rows.SortShellAny
import KE.KDictSum
import PySem.Challenge.RW_pairnets_s01_answers
section
set_option Elab.async false
set_option linter.all false
set_option maxRecDepth 100000
namespace L2
open PySem PySem.Spec PyProof.Rows
abbrev Key:=Sum Int Str
def keyIs:Key→Value→Bool
  | .inl k,v=>Value.isInt k v
  | .inr x,v=>Value.isStrOf x v
def keyH (w:World):Key→Int
  | .inl k=>hashInt k
  | .inr x=>hashStr w x
theorem keyIs_shape:∀ {k:Key} {v:Value},keyIs k v=true→(∃ i t,k=Sum.inl i∧v=Value.int i t)∨(∃ x t,k=Sum.inr x∧v=Value.str x t)
  | .inl i,v,h=>by
    obtain ⟨t,e⟩:=Value.isInt_shape (k:=i) (v:=v) h
    exact .inl ⟨i,t,rfl,e⟩
  | .inr x,v,h=>by
    obtain ⟨t,e⟩:=Value.isStrOf_shape (x:=x) (v:=v) h
    exact .inr ⟨x,t,rfl,e⟩
theorem keyIs_int (i:Int) (t:Tok):keyIs (.inl i) (.int i t)=true:=by simp [keyIs,Value.isInt]
theorem keyIs_str (x:Str) (t:Tok):keyIs (.inr x) (.str x t)=true:=by simp [keyIs,Value.isStrOf]
theorem key_ll (a b:Int):decide ((Sum.inl a:Key)=Sum.inl b)=(a == b):=by
  by_cases e:a=b
  · subst e;simp
  · have h:¬ (Sum.inl a:Key)=Sum.inl b:=fun q=>e (Sum.inl.inj q)
    rw [decide_eq_false h]
    exact (beq_eq_false_iff_ne.mpr e).symm
theorem key_rr (a b:Str):decide ((Sum.inr a:Key)=Sum.inr b)=decide (a=b):=by
  by_cases e:a=b
  · subst e;simp
  · have h:¬ (Sum.inr a:Key)=Sum.inr b:=fun q=>e (Sum.inr.inj q)
    rw [decide_eq_false h,decide_eq_false e]
theorem key_lr (a:Int) (b:Str):decide ((Sum.inl a:Key)=Sum.inr b)=false:=decide_eq_false (fun q=>nomatch q)
theorem key_rl (a:Str) (b:Int):decide ((Sum.inr a:Key)=Sum.inl b)=false:=decide_eq_false (fun q=>nomatch q)
def mixKind (prog:Program) (w:World):PySem.KeyKind prog w Key where
  is:=keyIs
  hash:=keyH w
  inj:=fun v a b ha hb=>by
    rcases keyIs_shape ha with ⟨i,t,rfl,rfl⟩ | ⟨x,t,rfl,rfl⟩
    · rcases keyIs_shape hb with ⟨j,u,rfl,e⟩ | ⟨y,u,rfl,e⟩
      · injection e with e1 _;rw [e1]
      · exact nomatch e
    · rcases keyIs_shape hb with ⟨j,u,rfl,e⟩ | ⟨y,u,rfl,e⟩
      · exact nomatch e
      · injection e with e1 _;rw [e1]
  byValue:=fun k v h=>by
    rcases keyIs_shape h with ⟨i,t,rfl,rfl⟩ | ⟨x,t,rfl,rfl⟩ <;> rfl
  pyHash:=fun hv h=>by
    rcases keyIs_shape hv with ⟨i,t,rfl,rfl⟩ | ⟨x,t,rfl,rfl⟩
    · exact wpAny_pyHash_int h
    · exact wpAny_pyHash_str h
  eqBool:=fun hu hv h=>by
    rcases keyIs_shape hu with ⟨i,t,rfl,rfl⟩ | ⟨x,t,rfl,rfl⟩
    · rcases keyIs_shape hv with ⟨j,u,rfl,rfl⟩ | ⟨y,u,rfl,rfl⟩
      · rw [key_ll] at h;exact wpAny_eqBool_int h
      · rw [key_lr] at h;exact SeqAt.EqAt.int_str i t y u _ _ _ _ h
    · rcases keyIs_shape hv with ⟨j,u,rfl,rfl⟩ | ⟨y,u,rfl,rfl⟩
      · rw [key_rl] at h;exact SeqAt.EqAt.str_int x t j u _ _ _ _ h
      · rw [key_rr] at h;exact wpAny_eqBool_str h
  «strs»:=fun k x t v h=>by
    rcases keyIs_shape h with ⟨i,u,rfl,e⟩ | ⟨y,u,rfl,e⟩
    · exact nomatch e
    · injection e with e1 _
      subst e1
      cases v <;> rfl
theorem mixKind_int (prog:Program) (w:World) (i:Int) (t:Tok):(mixKind prog w).is (.inl i) (.int i t)=true:=keyIs_int i t
theorem mixKind_str (prog:Program) (w:World) (x:Str) (t:Tok):(mixKind prog w).is (.inr x) (.str x t)=true:=keyIs_str x t
end L2
namespace L2
open PySem PySem.Spec PyProof.Rows
inductive V where
  | non | bl (b:Bool) | int (i:Int) | str (x:Str) | byt (b:Array UInt8) | flt (b:UInt64) | ref (a:Addr) | ty (n:String)
  deriving DecidableEq
def RelV:V→Value→Prop
  | .non,u=>u=Value.none
  | .bl b,u=>u=Value.bool b
  | .int i,u=>∃ t,u=Value.int i t
  | .str x,u=>∃ t,u=Value.str x t
  | .byt b,u=>∃ t,u=Value.bytes b t
  | .flt b,u=>∃ t,u=Value.float b t
  | .ref a,u=>u=Value.ref a
  | .ty n,u=>u=Value.type n
abbrev Vals:List V→List Value→Prop:=Paired RelV
theorem Vals.length {xs:List V} {us:List Value} (r:Vals xs us):xs.length=us.length:=Paired.length r
theorem Vals.get:∀ {xs:List V} {us:List Value} {i:Nat} {x:V},Vals xs us→xs[i]?=some x→∃ u,us[i]?=some u∧RelV x u
  | _,_,_,_,.nil,e=>by simp at e
  | _,_,0,_,.cons r _,e=>by simp at e;subst e;exact ⟨_,rfl,r⟩
  | _,_,i+1,x,.cons _ t,e=>by
    obtain ⟨u,h1,h2⟩:=Vals.get (i:=i) (x:=x) t (by simpa using e)
    exact ⟨u,by simpa using h1,h2⟩
theorem Vals.append:∀ {xs ys:List V} {us ws:List Value},Vals xs us→Vals ys ws→Vals (xs++ys) (us++ws)
  | _,_,_,_,.nil,s=>s
  | _,_,_,_,.cons r t,s=>.cons r (Vals.append t s)
theorem Vals.take:∀ {xs:List V} {us:List Value} (n:Nat),Vals xs us→Vals (xs.take n) (us.take n)
  | _,_,0,_=>.nil
  | _,_,_+1,.nil=>.nil
  | _,_,n+1,.cons r t=>.cons r (Vals.take n t)
theorem Vals.drop:∀ {xs:List V} {us:List Value} (n:Nat),Vals xs us→Vals (xs.drop n) (us.drop n)
  | _,_,0,r=>r
  | _,_,_+1,.nil=>.nil
  | _,_,n+1,.cons _ t=>Vals.drop n t
def RelO:Option V→Option Value→Prop
  | some v,some u=>RelV v u
  | none,none=>True
  | _,_=>False
def KV {κ:Type}:List (κ × V)→List (κ × Value)→Prop:=Paired fun (p:κ × V) (q:κ × Value)=>p.1=q.1∧RelV p.2 q.2
def kV:Key→V
  | .inl i=>.int i
  | .inr x=>.str x
inductive HO where
  | lst (xs:List V)
  | tup (xs:List V)
  | dK (kvs:List (Key × V)) | dT (kvs:List (List Key × V))
  | set (S:Int→Bool) (n:Nat)
  | ins (C dx:Addr) (fs:List (Str × V))
  | own (x:Addr)
  | xd (fs:List (Str × V))
  | met (f x:Addr)
  | rng (lo hi:Int)
  | frz (o:Obj) (u:HO)
  | tbl (ps:Array Value)
  | ext (φ:Heap→Prop)
abbrev Hp:=Addr→Option HO
def upd (H:Hp) (a:Addr) (o:HO):Hp:=fun b=>if b=a then some o else H b
theorem upd_same {H:Hp} {a:Addr} {o:HO}:upd H a o a=some o:=by unfold upd;rw [if_pos rfl]
theorem upd_ne {H:Hp} {a b:Addr} {o:HO} (h:b≠a):upd H a o b=H b:=by unfold upd;rw [if_neg h]
theorem upd_upd {H:Hp} {a:Addr} {o u:HO}:upd (upd H a o) a u=upd H a u:=by
  funext b;unfold upd;split <;> rfl
theorem ne_of {H:Hp} {a b:Addr} {o u:HO} (h:H a=some o) (h' : H b=some u) (d:o≠u):a≠b:=by
  intro e;subst e;rw [h] at h';exact d (Option.some.inj h')
theorem ne_of_none {H:Hp} {a b:Addr} {o:HO} (h:H a=some o) (h' : H b=none):a≠b:=by
  intro e;subst e;rw [h] at h';cases h'
section
variable (P:Program) (w:World)
def ObjOk (H:Hp) (h:Heap) (a:Addr):HO→Prop
  | .lst xs=>xs.length≤sizeLine∧∃ (its:List Value) (n:Nat),Vals xs its∧h.get? a=some { cls:=.type "list",data:=.seq its.toArray n }
  | .tup xs=>xs.length≤sizeLine∧∃ its:List Value,Vals xs its∧IsTup h a its.toArray
  | .dK kvs=>kvs.length≤sizeLine∧(a == sysModules)=false∧∃ vs,KV kvs vs∧h.DictOf (mixKind P w) a vs
  | .dT kvs=>kvs.length≤sizeLine∧(a == sysModules)=false∧∃ xs:List (List Key × Addr × Value),
      Paired (fun (p:List Key × V) (q:List Key × Addr × Value)=>p.1=q.1∧H q.2.1=some (.tup (p.1.map kV))∧RelV p.2 q.2.2) kvs xs ∧
      ∃ o es ep,h.get? a=some o∧o.ExactDict∧o.data=.dict es ep∧es.toList=xs.map (entryOfKey (tupleKind (mixKind P w)))∧(xs.map (·.1)).Nodup
  | .set S n=>h.SetOf (intKind P w) a S n
  | .ins C dx fs=>H dx=some (.own a)∧fs.length≤1000∧dx≠a∧h.get? a=some (PySem.W.instObj C dx) ∧
      ∃ mA,h.Ns1 dx mA∧(∀ f,RelO (fs.lookup f) (mA f))∧PySem.Within mA (fs.map (·.1))
  | .own _=>∃ o,h.get? a=some o
  | .xd fs=>∃ mA,h.Ns1 a mA∧∀ f,RelO (fs.lookup f) (mA f)
  | .rng lo hi=>∃ t u v,h.get? a=some { cls:=.type "range",data:=.fields #[.int lo t,.int hi u,.int 1 v] }
  | .frz o u=>h.get? a=some o∧ObjOk H h a u
  | .tbl ps=>h.get? a=some { cls:=.none,data:=.fields ps }
  | .met f x=>h.get? a=some (PySem.W.methodObj (.ref f) (.ref x))
  | .ext φ=>φ h∧(∃ o,h.get? a=some o)∧∀ h1 h2:Heap,φ h1→(∀ o,h1.get? a=some o→h2.get? a=some o)→φ h2
def HOk (H:Hp) (h:Heap):Prop:=∀ a o,H a=some o→ObjOk P w H h a o
end
section
variable {P:Program} {w:World} {H H' : Hp} {h h' : Heap} {a:Addr} {o:HO}
theorem ObjOk.lt (x:ObjOk P w H h a o):a<h.objs.size:=by
  cases o with
  | lst xs=>obtain ⟨_,_,_,_,e⟩:=x;exact Heap.lt_size e
  | tup xs=>obtain ⟨_,_,_,p⟩:=x;exact p.lt
  | dK kvs=>obtain ⟨_,_,_,_,o,_,_,e,_⟩:=x;exact Heap.lt_size e
  | dT kvs=>obtain ⟨_,_,_,_,o,_,_,e,_⟩:=x;exact Heap.lt_size e
  | set S n=>obtain ⟨o,_,_,_,e,_⟩:=x;exact Heap.lt_size e
  | ins C dx fs=>obtain ⟨_,_,_,e,_⟩:=x;exact Heap.lt_size e
  | own y=>obtain ⟨_,e⟩:=x;exact Heap.lt_size e
  | xd fs=>obtain ⟨_,⟨_,_,_,e,_⟩,_⟩:=x;exact Heap.lt_size e
  | rng lo hi=>obtain ⟨_,_,_,e⟩:=x;exact Heap.lt_size e
  | frz ob u=>obtain ⟨e,_⟩:=x;exact Heap.lt_size e
  | tbl ps=>exact Heap.lt_size (show h.get? a=some _ from x)
  | met f y=>exact Heap.lt_size (show h.get? a=some _ from x)
  | ext φ=>obtain ⟨_,⟨_,e⟩,_⟩:=x;exact Heap.lt_size e
theorem Paired.mapP {α β:Type} {F G:α→β→Prop}:∀ {l₁:List α} {l₂:List β},Paired F l₁ l₂→(∀ a b,F a b→G a b)→Paired G l₁ l₂
  | _,_,.nil,_=>.nil
  | _,_,.cons r t,f=>.cons (f _ _ r) (Paired.mapP t f)
theorem ObjOk.stay (x:ObjOk P w H h a o) (k:∀ b u,(b=a∨H b=some (.own a))→h.get? b=some u→h'.get? b=some u)
    (ho:∀ b,H b=some (.own a)→H' b=some (.own a)) (ht:∀ b xs,H b=some (.tup xs)→H' b=some (.tup xs)):ObjOk P w H' h' a o:=by
  induction o with
  | lst xs=>obtain ⟨z,its,n,r,e⟩:=x;exact ⟨z,its,n,r,k _ _ (.inl rfl) e⟩
  | tup xs=>obtain ⟨z,its,r,ob,e,c⟩:=x;exact ⟨z,its,r,ob,k _ _ (.inl rfl) e,c⟩
  | dK kvs=>obtain ⟨z,y,vs,r,ob,es,ep,e,c⟩:=x;exact ⟨z,y,vs,r,ob,es,ep,k _ _ (.inl rfl) e,c⟩
  | dT kvs =>
    obtain ⟨z,y,xs,r,ob,es,ep,e,c⟩:=x
    exact ⟨z,y,xs,Paired.mapP r fun p q z=>⟨z.1,ht _ _ z.2.1,z.2.2⟩,ob,es,ep,k _ _ (.inl rfl) e,c⟩
  | set S n=>obtain ⟨ob,es,ep,t,e,c⟩:=x;exact ⟨ob,es,ep,t,k _ _ (.inl rfl) e,c⟩
  | ins C dx fs =>
    obtain ⟨d,z,ne,e,mA,⟨od,es,ep,e2,c⟩,r⟩:=x
    exact ⟨ho _ d,z,ne,k _ _ (.inl rfl) e,mA,⟨od,es,ep,k _ _ (.inr d) e2,c⟩,r⟩
  | own y=>obtain ⟨ob,e⟩:=x;exact ⟨ob,k _ _ (.inl rfl) e⟩
  | xd fs=>obtain ⟨mA,⟨od,es,ep,e,c⟩,r⟩:=x;exact ⟨mA,⟨od,es,ep,k _ _ (.inl rfl) e,c⟩,r⟩
  | rng lo hi=>obtain ⟨t,u,v,e⟩:=x;exact ⟨t,u,v,k _ _ (.inl rfl) e⟩
  | frz ob u ih=>obtain ⟨e,q⟩:=x;exact ⟨k _ _ (.inl rfl) e,ih q⟩
  | tbl ps =>
    have e:h.get? a=some { cls:=.none,data:=.fields ps }:=x
    show h'.get? a=some { cls:=.none,data:=.fields ps }
    exact k a _ (.inl rfl) e
  | met f y =>
    have e:h.get? a=some (PySem.W.methodObj (.ref f) (.ref y)):=x
    show h'.get? a=some (PySem.W.methodObj (.ref f) (.ref y))
    exact k a _ (.inl rfl) e
  | ext φ=>obtain ⟨p,⟨o,e⟩,st⟩:=x;exact ⟨st _ _ p fun o q=>k _ _ (.inl rfl) q,⟨o,k _ _ (.inl rfl) e⟩,st⟩
theorem HOk.lt (x:HOk P w H h) (e:H a=some o):a<h.objs.size:=(x a o e).lt
theorem HOk.fresh (x:HOk P w H h) (e:h.objs.size≤a):H a=none:=by
  cases q:H a with
  | none=>rfl
  | some u=>exact absurd (Nat.lt_of_lt_of_le (x.lt q) e) (Nat.lt_irrefl _)
theorem HOk.kept (x:HOk P w H h) (k:∀ b u,h.get? b=some u→h'.get? b=some u):HOk P w H h':=fun a o e =>
  (x a o e).stay (fun b u _ q=>k b u q) (fun _ q=>q) fun _ _ q=>q
theorem HOk.laid (x:HOk P w H h) (k:∀ b u,h.get? b=some u→h'.get? b=some u) (hp:h.objs.size≤a) (new:ObjOk P w (upd H a o) h' a o):HOk P w (upd H a o) h':=fun b u e=>by
  have hn:=x.fresh hp
  by_cases hb:b=a
  · subst hb;rw [upd_same] at e;cases e;exact new
  · rw [upd_ne hb] at e
    exact (x b u e).stay (fun c v _ q=>k c v q) (fun c q=>by rw [upd_ne (ne_of_none q hn)];exact q) fun c xs q=>by rw [upd_ne (ne_of_none q hn)];exact q
end
def Rd (H:Hp) (a:Addr) (u:HO):Prop:=H a=some u∨∃ o,H a=some (.frz o u)
theorem Rd.ok {P:Program} {w:World} {H:Hp} {h:Heap} {a:Addr} {u:HO} (r:Rd H a u) (x:HOk P w H h):ObjOk P w H h a u:=by
  rcases r with r | ⟨o,r⟩
  · exact x a u r
  · obtain ⟨_,q⟩:=x a _ r
    exact q
def Mut:Option HO→Prop
  | some (.lst _)=>True
  | some (.dK _)=>True
  | some (.dT _)=>True
  | some (.set _ _)=>True
  | some (.ins _ _ _)=>True
  | some (.ext _)=>True
  | _=>False
section
variable {P:Program} {w:World} {H:Hp} {h h' : Heap} {x e:Addr} {o' : HO}
theorem HOk.write (ok:HOk P w H h) (mu:Mut (H x)) (he:e=x∨H e=some (.own x)) (k:∀ b u,b≠e→h.get? b=some u→h'.get? b=some u) (heo:∃ u,h'.get? e=some u)
    (new:ObjOk P w (upd H x o') h' x o'):HOk P w (upd H x o') h':=fun b u q=>by
  have nown:∀ c y,H c=some (.own y)→c≠x:=fun c y r z=>by subst z;rw [r] at mu;exact mu
  have ntup:∀ c xs,H c=some (.tup xs)→c≠x:=fun c xs r z=>by subst z;rw [r] at mu;exact mu
  by_cases hb:b=x
  · subst hb;rw [upd_same] at q;cases q;exact new
  · rw [upd_ne hb] at q
    by_cases hbe:b=e
    · have q' : H b=some (.own x):=by
        rcases he with z | z
        · exact absurd (hbe.trans z) hb
        · rw [hbe];exact z
      rw [q] at q';cases q'
      obtain ⟨v,hv⟩:=heo
      exact ⟨v,by rw [hbe];exact hv⟩
    · refine (ok b u q).stay (fun c v hc r=>k c v ?_ r) (fun c r=>by rw [upd_ne (nown c b r)];exact r) fun c xs r=>by rw [upd_ne (ntup c xs r)];exact r
      rcases hc with rfl | hc
      · exact hbe
      · rintro rfl
        rcases he with z | z
        · exact nown c b hc z
        · rw [hc] at z;cases z;exact hb rfl
end
structure Un (fs ex:List Addr) (H H' : Hp) (h h' : Heap):Prop where
  keep:∀ b o,h.get? b=some o→H b=none→b∉fs→b∉ex→h'.get? b=some o
  slot:∀ b o,h.get? b=some o→H b=none→b∈fs→b∉ex→∃ sl,h'.get? b=some { o with slots:=sl }
  free:∀ b o,h.get? b=some o→H b=none→b∉ex→H' b=none
  there:∀ b o,h.get? b=some o→b∉ex→∃ o',h'.get? b=some o'
  tups:∀ b xs,H b=some (.tup xs)→H' b=some (.tup xs)
  frzs:∀ b o u,H b=some (.frz o u)→H' b=some (.frz o u)
  tbls:∀ b ps,H b=some (.tbl ps)→∃ more,H' b=some (.tbl (ps++more))
section
variable {fs fs' ex ex' : List Addr} {H H1 H2:Hp} {h h1 h2 h' : Heap} {a x e:Addr} {o:HO}
theorem Un.any (u:Un fs ex H H1 h h1) {b:Addr} {ob:Obj} (q:h.get? b=some ob) (n:H b=none) (hx:b∉ex):∃ sl,h1.get? b=some { ob with slots:=sl }:=by
  by_cases hb:b∈fs
  · exact u.slot b ob q n hb hx
  · exact ⟨ob.slots,u.keep b ob q n hb hx⟩
theorem Un.kept (k:∀ b u,h.get? b=some u→h'.get? b=some u):Un fs ex H H h h' :=
  ⟨fun b ob q _ _ _=>k b ob q,fun b ob q _ _ _=>⟨ob.slots,k b ob q⟩,fun _ _ _ n _=>n,fun b ob q _=>⟨ob,k b ob q⟩,fun _ _ q=>q,fun _ _ _ q=>q,fun _ ps q=>⟨#[],by rw [q];simp⟩⟩
theorem Un.refl:Un fs ex H H h h:=Un.kept fun _ _ q=>q
theorem Un.laid (k:∀ b u,h.get? b=some u→h'.get? b=some u) (hp:h.objs.size≤a) (hn:H a=none):Un fs ex H (upd H a o) h h' where
  keep:=fun b u q _ _ _=>k b u q
  slot:=fun b u q _ _ _=>⟨u.slots,k b u q⟩
  free:=fun b u q n _=>by rw [upd_ne (Nat.ne_of_lt (Nat.lt_of_lt_of_le (Heap.lt_size q) hp))];exact n
  there:=fun b u q _=>⟨u,k b u q⟩
  tups:=fun b xs q=>by rw [upd_ne (ne_of_none q hn)];exact q
  frzs:=fun b u xs q=>by rw [upd_ne (ne_of_none q hn)];exact q
  tbls:=fun b ps q=>⟨#[],by rw [upd_ne (ne_of_none q hn),q];simp⟩
theorem Un.write (mu:Mut (H x)) (he:e=x∨H e=some (.own x)) (k:∀ b u,b≠e→h.get? b=some u→h'.get? b=some u) (heo:∃ u,h'.get? e=some u):Un fs ex H (upd H x o) h h':=by
  have hx:∀ b,H b=none→b≠x:=fun b n z=>by subst z;rw [n] at mu;exact mu
  have hb:∀ b,H b=none→b≠e:=fun b n z=>by
    subst z
    rcases he with r | r
    · exact hx b n r
    · rw [n] at r;cases r
  have hm:∀ b u,H b=some u→¬ Mut (some u)→b≠x:=fun b u q nm z=>by subst z;rw [q] at mu;exact nm mu
  refine ⟨fun b u q n _ _=>k b u (hb b n) q,fun b u q n _ _=>⟨u.slots,k b u (hb b n) q⟩,fun b u q n _=>by rw [upd_ne (hx b n)];exact n,fun b u q _=>?_,
    fun b xs q=>by rw [upd_ne (hm b _ q fun z=>z)];exact q,fun b u xs q=>by rw [upd_ne (hm b _ q fun z=>z)];exact q,fun b ps q=>⟨#[],by rw [upd_ne (hm b _ q fun z=>z),q];simp⟩⟩
  by_cases hbe:b=e
  · subst hbe;exact heo
  · exact ⟨u,k b u hbe q⟩
end
def trk (h:Heap) (H:Hp):List Addr:=(List.range h.objs.size).filter fun a=>(H a).isSome
def hidT (h:Heap) (H:Hp):Heap:=PySem.W.hideAll h (trk h H)
theorem hidT_size (h:Heap) (H:Hp):(hidT h H).objs.size=h.objs.size:=PySem.W.hideAll_size _ _
theorem hidT_get {h:Heap} {H:Hp} {b:Addr} {o:Obj} (e:h.get? b=some o) (n:H b=none):(hidT h H).get? b=some o :=
  PySem.W.hideAll_get _ e fun hm=>by
    have q:(H b).isSome=true:=(List.mem_filter.mp hm).2
    rw [n] at q;simp at q
theorem of_hidT {h:Heap} {H:Hp} {b:Addr} {o:Obj} (e:(hidT h H).get? b=some o):h.get? b=some o∧H b=none:=by
  have e' : h.get? b=some o:=PySem.W.of_hideAll (trk h H) e
  refine ⟨e',?_⟩
  cases q:H b with
  | none=>rfl
  | some x =>
    have hm:b∈trk h H:=List.mem_filter.mpr ⟨List.mem_range.mpr (Heap.lt_size e'),by simp [q]⟩
    have z:(hidT h H).get? b=none:=PySem.W.hideAll_none (trk h H) hm
    rw [z] at e;cases e
end L2
namespace L2
open PySem PySem.Spec PyProof.Rows
structure Mod (K:PySem.W.Frag) (mg:Str→Option Value) (base:Heap):Prop where
  kin:K.In base
  glob:base.Ns mainGlobals mg
  blt:∃ mb,base.Ns builtinsNs mb∧∀ x:Str,x ≠ "__name__"→mb x=bootBuiltins x
  nolimit:base.NoLimit
structure Cx where
  prog:Program
  w:World
  K:PySem.W.Frag
  mg:Str→Option Value
  base:Heap
  A:Around
  N:List Str
  s_0:Shared
  H_0:Hp
  env:Env
  outer:List Env
  stack:List Env
  ex:List Addr
  fn:Str→Bool
  calm:Bool
  pn:List (Addr × Obj)
  xe:Value→Shared→Prop
def frs (l:List Env):List Addr:=l.filterMap (·.frame)
abbrev Cx.fs (X:Cx):List Addr:=frs X.outer
def Vis (sc:Scope) (x:Str):Prop:=sc.names.lookup x=some .local∨sc.names.lookup x=some .cell∨sc.names.lookup x=some .free
def Loc (sc:Scope) (x:Str):Prop:=sc.names.lookup x=some .local∨sc.names.lookup x=some .cell
def Look (env:Env) (h:Heap) (m:Str→Option Value) (x:Str) (u:Value):Prop :=
  (env.kindOf x=some .local∧m x=some u)∨((env.kindOf x=some .cell∨env.kindOf x=some .free)∧∃ c,env.cells.lookup x=some c∧h.IsCell c (some u))
structure Cx.Ok (X:Cx):Prop where
  mod:Mod X.K X.mg X.base
  kind:X.env.scope.kind=.function
  glob:X.env.globals=mainGlobals
  blt:X.env.builtins=builtinsNs
  above:X.s_0.heap.objs.size≤X.env.locals
  inj:∀ x y c,X.env.cells.lookup x=some c→X.env.cells.lookup y=some c→x=y
  has:∀ x,(X.env.kindOf x=some .cell∨X.env.kindOf x=some .free)→∃ c,X.env.cells.lookup x=some c
  cab:∀ x c,X.fn x=true→X.env.cells.lookup x=some c→X.s_0.heap.objs.size≤c
  hd:X.calm=true→X.A.handled=none
  frames:X.A.frames=some X.stack
  stk:X.stack=X.outer∨(X.stack=X.env::X.outer∧X.env.frame=some X.env.locals)
  exf:∀ b∈X.ex,b≠X.env.locals∧∀ x c,X.env.cells.lookup x=some c→c≠b
  bs:∀ b o,X.base.get? b=some o→X.s_0.heap.get? b=some o∧X.H_0 b=none
  bsz:X.base.objs.size≤X.s_0.heap.objs.size
  noex:∀ b o,X.base.get? b=some o→b∉X.ex
  exfs:∀ b∈X.ex,b∉X.fs
  funs:X.s_0.heap.FunFrames X.base X.outer
  frf:∀ b∈X.fs,X.H_0 b=none
structure Inv (X:Cx) (pins:List (Addr × Obj)) (σ:List (Option V)) (H:Hp) (s:Shared):Prop where
  ok:X.Ok
  os:s.os=X.s_0.os
  bare:AllBare s.gens
  base:Un X.fs X.ex X.H_0 H X.s_0.heap s.heap
  loc:∃ m,s.heap.Ns X.env.locals m∧∀ (i:Nat) (x:Str) (v:V),X.N[i]?=some x→σ[i]?=some (some v)→Vis X.env.scope x→∃ u,RelV v u∧Look X.env s.heap m x u
  cell:∀ x c,X.env.cells.lookup x=some c→∃ v,s.heap.IsCell c v
  free:H X.env.locals=none
  freeC:∀ x c,X.env.cells.lookup x=some c→H c=none
  pin:∀ p∈X.pn++pins,s.heap.get? p.1=some p.2∧H p.1=none∧p.1≠X.env.locals∧p.1∉X.fs∧∀ v,p.2.data≠.cell v
  hok:HOk X.prog X.w H s.heap
  len:σ.length=X.N.length
section
variable {X:Cx} {pins:List (Addr × Obj)} {σ:List (Option V)} {H H' : Hp} {s:Shared} {h' : Heap}
theorem Cx.Ok.nofr (ok:X.Ok) {b:Addr} {o:Obj} (e:X.base.get? b=some o):b∉X.fs:=fun hb=>by
  have:=(ok.funs.mem hb).1
  rw [e] at this;cases this
theorem Inv.bs (I:Inv X pins σ H s):∀ b o,X.base.get? b=some o→s.heap.get? b=some o∧H b=none:=fun b o e =>
  ⟨I.base.keep b o (I.ok.bs b o e).1 (I.ok.bs b o e).2 (I.ok.nofr e) (I.ok.noex b o e),I.base.free b o (I.ok.bs b o e).1 (I.ok.bs b o e).2 (I.ok.noex b o e)⟩
theorem Inv.bk (I:Inv X pins σ H s):∀ b o,X.base.get? b=some o→s.heap.get? b=some o:=fun b o e=>(I.bs b o e).1
theorem Inv.mod (I:Inv X pins σ H s):Mod X.K X.mg X.base:=I.ok.mod
theorem Inv.kIn (I:Inv X pins σ H s):X.K.In s.heap:=I.ok.mod.kin.keeps I.bk
theorem Inv.lt (I:Inv X pins σ H s):X.env.locals<s.heap.objs.size:=let ⟨_,hn,_⟩:=I.loc;hn.lt
theorem Inv.sz (I:Inv X pins σ H s):X.s_0.heap.objs.size≤s.heap.objs.size:=Nat.le_trans I.ok.above (Nat.le_of_lt I.lt)
theorem Inv.nofs (I:Inv X pins σ H s) {a:Addr} (h:s.heap.objs.size≤a):a∉X.fs:=fun hb=>by
  obtain ⟨_,o,ho,_⟩:=I.ok.funs.mem hb
  exact absurd (Nat.lt_of_lt_of_le (Heap.lt_size ho) (Nat.le_trans I.sz h)) (Nat.lt_irrefl _)
theorem Inv.cne (I:Inv X pins σ H s):∀ x c,X.env.cells.lookup x=some c→c≠X.env.locals:=fun x c e z=>by
  obtain ⟨v,o,ho,hd⟩:=I.cell x c e
  obtain ⟨m,⟨o',es,ep,ho',hd',_⟩,_⟩:=I.loc
  rw [z,ho'] at ho;cases ho;rw [hd'] at hd;cases hd
theorem Inv.funs (I:Inv X pins σ H s):s.heap.FunFrames X.base X.outer:=by
  have all:∀ (l:List Env),(∀ b∈frs l,b∈X.fs)→X.s_0.heap.FunFrames X.base l→s.heap.FunFrames X.base l:=by
    intro l
    induction l with
    | nil=>intro _ _;trivial
    | cons env r ih =>
      intro hs hl
      obtain ⟨hk,⟨L,o,hf,hn,ho,hd⟩,hr⟩:=hl
      have hL:L∈X.fs:=hs L (by unfold frs;rw [List.filterMap_cons,hf];exact List.mem_cons_self)
      obtain ⟨sl,e⟩:=I.base.slot L o ho (I.ok.frf L hL) hL fun z=>I.ok.exfs L z hL
      exact ⟨hk,⟨L,_,hf,hn,e,hd⟩,ih (fun b hb=>hs b (by unfold frs;rw [List.filterMap_cons,hf];exact List.mem_cons_of_mem _ hb)) hr⟩
  exact all X.outer (fun _ hb=>hb) I.ok.funs
theorem Inv.stack (I:Inv X pins σ H s):s.heap.FunFrames X.base X.stack:=by
  rcases I.ok.stk with e | ⟨e,hf⟩
  · rw [e];exact I.funs
  · rw [e]
    obtain ⟨m,hn,_⟩:=I.loc
    refine .cons (by rw [I.ok.kind];decide) hf hn ?_ I.funs
    exact Heap.get?_none_of_le (Nat.le_trans I.ok.bsz I.ok.above)
theorem Inv.stkSub (I:Inv X pins σ H s):∀ b∈frs X.stack,b∈X.env.locals::X.fs:=fun b hb=>by
  rcases I.ok.stk with e | ⟨e,hf⟩
  · rw [e] at hb;exact List.mem_cons_of_mem _ hb
  · rw [e] at hb
    unfold frs at hb
    rw [List.filterMap_cons,hf] at hb
    exact hb
theorem Inv.stkFree (I:Inv X pins σ H s):∀ b∈frs X.stack,H b=none:=fun b hb=>by
  rcases List.mem_cons.mp (I.stkSub b hb) with e | hb
  · rw [e];exact I.free
  · obtain ⟨_,o,ho,_⟩:=I.ok.funs.mem hb
    exact I.base.free b o ho (I.ok.frf b hb) fun z=>I.ok.exfs b z hb
theorem Inv.step {g' : Array GenState} {t' : Nat} {d' : Drawn} {ch:List Addr} (I:Inv X pins σ H s)
    (hch:∀ b∈ch,(b∈X.ex∨X.s_0.heap.objs.size≤b)∧b≠X.env.locals∧(∀ x c,X.env.cells.lookup x=some c→c≠b)∧∀ p∈X.pn++pins,p.1≠b)
    (keep:∀ b o,b≠X.env.locals→b∉X.fs→b∉ch→s.heap.get? b=some o→H b=none→h'.get? b=some o)
    (slot:∀ b o,b≠X.env.locals→b∈X.fs→b∉ch→s.heap.get? b=some o→H b=none→∃ sl,h'.get? b=some { o with slots:=sl }) (free:∀ b o,b∉ch→s.heap.get? b=some o→H b=none→H' b=none)
    (there:∀ b o,b∉ch→s.heap.get? b=some o→∃ o',h'.get? b=some o')
    (tups:∀ b xs,H b=some (.tup xs)→H' b=some (.tup xs)) (frzs:∀ b o u,H b=some (.frz o u)→H' b=some (.frz o u)) (tbls:∀ b ps,H b=some (.tbl ps)→∃ more,H' b=some (.tbl (ps++more)))
    (ns:∀ m,s.heap.Ns X.env.locals m→h'.Ns X.env.locals m) (hok:HOk X.prog X.w H' h') (hg:AllBare g') :
    Inv X pins σ H' { s with heap:=h',gens:=g',drawn:=d',toks:=t' }:=by
  have neL:∀ b o,X.s_0.heap.get? b=some o→b≠X.env.locals:=fun b o e=>Nat.ne_of_lt (Nat.lt_of_lt_of_le (Heap.lt_size e) I.ok.above)
  have neC:∀ b o,X.s_0.heap.get? b=some o→b∉X.ex→b∉ch:=fun b o e hx hb=>by
    rcases (hch b hb).1 with z | z
    · exact hx z
    · exact absurd (Nat.lt_of_lt_of_le (Heap.lt_size e) z) (Nat.lt_irrefl _)
  have cellK:∀ x c,X.env.cells.lookup x=some c→∀ v,s.heap.IsCell c v→h'.IsCell c v:=fun x c e v ⟨o,ho,hd⟩=>by
    have nch:c∉ch:=fun z=>(hch c z).2.2.1 x c e rfl
    by_cases hc:c∈X.fs
    · obtain ⟨sl,q⟩:=slot c o (I.cne x c e) hc nch ho (I.freeC x c e)
      exact ⟨_,q,hd⟩
    · exact ⟨o,keep c o (I.cne x c e) hc nch ho (I.freeC x c e),hd⟩
  refine ⟨I.ok,I.os,hg,⟨fun b o e n hb hx=>?_,fun b o e n hb hx=>?_,fun b o e n hx=>?_,fun b o e hx=>?_,fun b xs e=>tups b xs (I.base.tups b xs e),fun b o xs e=>frzs b o xs (I.base.frzs b o xs e),fun b ps e=>?_⟩,?_,fun x c e=>?_,?_,fun x c e=>?_,fun p hp=>?_,hok,I.len⟩
  · exact keep b o (neL b o e) hb (neC b o e hx) (I.base.keep b o e n hb hx) (I.base.free b o e n hx)
  · obtain ⟨sl,e1⟩:=I.base.slot b o e n hb hx
    obtain ⟨sl',e2⟩:=slot b _ (neL b o e) hb (neC b o e hx) e1 (I.base.free b o e n hx)
    exact ⟨sl',e2⟩
  · obtain ⟨o',e1⟩:=I.base.there b o e hx
    exact free b o' (neC b o e hx) e1 (I.base.free b o e n hx)
  · obtain ⟨o',e1⟩:=I.base.there b o e hx
    exact there b o' (neC b o e hx) e1
  · obtain ⟨m1,e1⟩:=I.base.tbls b ps e
    obtain ⟨m2,e2⟩:=tbls b _ e1
    exact ⟨m1++m2,by rw [e2,Array.append_assoc]⟩
  · obtain ⟨m,hn,hl⟩:=I.loc
    refine ⟨m,ns m hn,fun i x v e1 e2 e3=>?_⟩
    obtain ⟨u,r,l⟩:=hl i x v e1 e2 e3
    refine ⟨u,r,?_⟩
    rcases l with l | ⟨k,c,e,z⟩
    · exact .inl l
    · exact .inr ⟨k,c,e,cellK x c e _ z⟩
  · obtain ⟨v,z⟩:=I.cell x c e
    exact ⟨v,cellK x c e v z⟩
  · obtain ⟨m,⟨o,_,_,ho,_⟩,_⟩:=I.loc
    exact free _ o (fun z=>(hch _ z).2.1 rfl) ho I.free
  · obtain ⟨v,o,ho,hd⟩:=I.cell x c e
    exact free c o (fun z=>(hch c z).2.2.1 x c e rfl) ho (I.freeC x c e)
  · obtain ⟨e,n,ne,nf,d⟩:=I.pin p hp
    have nch:p.1∉ch:=fun z=>(hch p.1 z).2.2.2 p hp rfl
    exact ⟨keep p.1 p.2 ne nf nch e n,free p.1 p.2 nch e n,ne,nf,d⟩
theorem Inv.un {t' : Nat} (I:Inv X pins σ H s) (u:Un X.fs [] H H' s.heap h') (hok:HOk X.prog X.w H' h'):Inv X pins σ H' { s with heap:=h',toks:=t' }:=by
  obtain ⟨m,⟨o,es,ep,ho,r⟩,_⟩:=id I.loc
  obtain ⟨sl,hL⟩:=u.any ho I.free (by simp)
  exact I.step (g':=s.gens) (d':=s.drawn) (ch:=[]) (fun _ z=>nomatch z) (fun b o _ hb _ e n=>u.keep b o e n hb (by simp)) (fun b o _ hb _ e n=>u.slot b o e n hb (by simp)) (fun b o _ e n=>u.free b o e n (by simp)) (fun b o _ e=>u.there b o e (by simp)) u.tups u.frzs u.tbls (fun m' hm=>by
    obtain ⟨o',es',ep',ho',r'⟩:=hm
    rw [ho] at ho';cases ho'
    exact ⟨_,es',ep',hL,r'⟩) hok I.bare
theorem Inv.call {g' : Array GenState} {t' : Nat} {d' : Drawn} {ch:List Addr} (I:Inv X pins σ H s) (u:Un (frs X.stack) ch H H' s.heap h') (hok:HOk X.prog X.w H' h') (hg:AllBare g')
    (hch:∀ b∈ch,(b∈X.ex∨X.s_0.heap.objs.size≤b)∧b≠X.env.locals∧(∀ x c,X.env.cells.lookup x=some c→c≠b)∧∀ p∈X.pn++pins,p.1≠b) :
    Inv X pins σ H' { s with heap:=h',gens:=g',drawn:=d',toks:=t' }:=by
  obtain ⟨m,⟨o,es,ep,ho,r⟩,_⟩:=id I.loc
  obtain ⟨sl,hL⟩:=u.any ho I.free fun z=>(hch _ z).2.1 rfl
  exact I.step (ch:=ch) hch (fun b o hL hb hc e n=>u.keep b o e n (fun z=>(List.mem_cons.mp (I.stkSub b z)).elim hL hb) hc) (fun b o _ _ hc e n=>u.any e n hc) (fun b o hc e n=>u.free b o e n hc) (fun b o hc e=>u.there b o e hc) u.tups u.frzs u.tbls (fun m' hm=>by
    obtain ⟨o',es',ep',ho',r'⟩:=hm
    rw [ho] at ho';cases ho'
    exact ⟨_,es',ep',hL,r'⟩) hok hg
theorem Inv.turned {t' : Nat} {it:Addr} (I:Inv X pins σ H s) (k:∀ b o,b≠it→s.heap.get? b=some o→h'.get? b=some o) (hn:H it=none) (hL:it≠X.env.locals)
    (h1:it∈X.ex∨X.s_0.heap.objs.size≤it) (h2:∀ x c,X.env.cells.lookup x=some c→c≠it) (h3:∀ p∈X.pn++pins,p.1≠it):Inv X pins σ H { s with heap:=h',toks:=t' }:=by
  have nit:∀ b u,H b=some u→b≠it:=fun b u e z=>by rw [z,hn] at e;cases e
  refine I.step (g':=s.gens) (d':=s.drawn) (ch:=[it]) (fun b hb=>?_) (fun b o _ _ hc e _=>k b o (fun z=>hc (by simp [z])) e) (fun b o _ _ hc e _=>⟨o.slots,k b o (fun z=>hc (by simp [z])) e⟩) (fun _ _ _ _ n=>n)
    (fun b o hc e=>⟨o,k b o (fun z=>hc (by simp [z])) e⟩) (fun _ _ e=>e) (fun _ _ _ e=>e) (fun b ps e=>⟨#[],by rw [e];simp⟩) (fun m hm=>?_) (fun b u e=>?_) I.bare
  · have e:b=it:=by simpa using hb
    subst e
    exact ⟨h1,hL,h2,h3⟩
  · obtain ⟨o,es,ep,ho,r⟩:=hm
    exact ⟨o,es,ep,k _ o (Ne.symm hL) ho,r⟩
  · refine (I.hok b u e).stay (fun c v hc q=>k c v ?_ q) (fun _ q=>q) fun _ _ q=>q
    rcases hc with z | z
    · rw [z];exact nit b u e
    · exact nit c _ z
theorem Inv.tok (I:Inv X pins σ H s) (t:Nat):Inv X pins σ H { s with toks:=t }:=I.un (h':=s.heap) (t':=t) Un.refl I.hok
theorem Inv.kept {t' : Nat} (I:Inv X pins σ H s) (k:∀ b u,s.heap.get? b=some u→h'.get? b=some u):Inv X pins σ H { s with heap:=h',toks:=t' }:=I.un (Un.kept k) (I.hok.kept k)
theorem Inv.laid {a:Addr} {o:HO} {t' : Nat} (I:Inv X pins σ H s) (k:∀ b u,s.heap.get? b=some u→h'.get? b=some u) (hp:s.heap.objs.size≤a) (new:ObjOk X.prog X.w (upd H a o) h' a o) :
    Inv X pins σ (upd H a o) { s with heap:=h',toks:=t' }:=I.un (Un.laid k hp (I.hok.fresh hp)) (I.hok.laid k hp new)
theorem Inv.write {x e:Addr} {o:HO} {t' : Nat} (I:Inv X pins σ H s) (mu:Mut (H x)) (he:e=x∨H e=some (.own x)) (k:∀ b u,b≠e→s.heap.get? b=some u→h'.get? b=some u) (heo:∃ u,h'.get? e=some u)
    (new:ObjOk X.prog X.w (upd H x o) h' x o):Inv X pins σ (upd H x o) { s with heap:=h',toks:=t' }:=I.un (Un.write mu he k heo) (I.hok.write mu he k heo new)
theorem Inv.weak {σ' : List (Option V)} (I:Inv X pins σ H s) (hl:σ'.length=σ.length) (w:∀ (i:Nat) v,σ'[i]?=some (some v)→σ[i]?=some (some v)):Inv X pins σ' H s :=
  ⟨I.ok,I.os,I.bare,I.base,let ⟨m,hn,hl'⟩:=I.loc;⟨m,hn,fun i x v e1 e2 e3=>hl' i x v e1 (w i v e2) e3⟩,I.cell,I.free,I.freeC,I.pin,I.hok,hl.trans I.len⟩
theorem Inv.pins_of {pins' : List (Addr × Obj)} (I:Inv X pins σ H s) (h:∀ p∈pins',s.heap.get? p.1=some p.2∧H p.1=none∧p.1≠X.env.locals∧p.1∉X.fs∧∀ v,p.2.data≠.cell v):Inv X pins' σ H s :=
  ⟨I.ok,I.os,I.bare,I.base,I.loc,I.cell,I.free,I.freeC,fun p hp=>(List.mem_append.mp hp).elim (fun z=>I.pin p (List.mem_append_left _ z)) (h p),I.hok,I.len⟩
theorem nodup_ix {N:List Str} (hN:N.Nodup) {i j:Nat} {x:Str} (a:N[i]?=some x) (b:N[j]?=some x):i=j:=by
  obtain ⟨h1,e1⟩:=List.getElem?_eq_some_iff.mp a
  obtain ⟨h2,e2⟩:=List.getElem?_eq_some_iff.mp b
  exact (List.getElem_inj hN).mp (e1.trans e2.symm)
theorem store_ok2 {M:Model} {A:Around} {E:Value→Shared→Prop} {i:Nat} {x:Str} {v:V} {u:Value} {Q:Unit→Shared→Prop} (I:Inv X pins σ H s) (hN:X.N.Nodup) (hi:X.N[i]?=some x) (hx:Loc X.env.scope x) (r:RelV v u)
    (h:∀ s',Inv X pins (σ.set i (some v)) H s'→(∃ a,Heap.SameBut a s.heap s'.heap∧(a=X.env.locals∨X.env.cells.lookup x=some a))→Q () s') (hf:X.fn x=true∨X.env.scope.names.lookup x=some .local:=by first | exact .inl rfl | exact .inr rfl | assumption):wpAny M A (storeName X.env x u) Q E s:=by
  obtain ⟨m,hn,hl⟩:=id I.loc
  have hcls:(X.env.scope.kind == .class || (X.env.scope.kind == .module && X.env.locals != X.env.globals))=false:=by rw [I.ok.kind];rfl
  have hiσ:i<σ.length:=by rw [I.len];exact (List.getElem?_eq_some_iff.mp hi).1
  have cne:=I.cne
  have tracked:∀ {a:Addr} {h' : Heap},(∃ o,s.heap.get? a=some o∧H a=none)→Heap.SameBut a s.heap h'→HOk X.prog X.w H h':=fun {a h'} ha hs b ob e=>by
    obtain ⟨_,_,hfree⟩:=ha
    refine (I.hok b ob e).stay (fun c w' hc q=>(hs.2 c ?_).trans q) (fun _ q=>q) fun _ _ q=>q
    rintro rfl
    rcases hc with rfl | hc
    · rw [hfree] at e;cases e
    · rw [hfree] at hc;cases hc
  rcases hx with hk | hk
  · refine wpAny_storeName_local hk hn (fun h' hn' hs=>?_) hcls
    obtain ⟨oL,_,_,hoL,_⟩:=id hn
    refine h _ ⟨I.ok,I.os,I.bare,⟨fun b o e n hb hx=>?_,fun b o e n hb hx=>?_,I.base.free,fun b o e hx=>?_,I.base.tups,I.base.frzs,I.base.tbls⟩,⟨_,hn',fun j y v' e1 e2 e3=>?_⟩,fun y c e=>?_,I.free,I.freeC,fun p hp=>?_,tracked ⟨oL,hoL,I.free⟩ hs,by simpa using I.len⟩ ⟨_,hs,.inl rfl⟩
    · exact (hs.2 b (Nat.ne_of_lt (Nat.lt_of_lt_of_le (Heap.lt_size e) I.ok.above))).trans (I.base.keep b o e n hb hx)
    · obtain ⟨sl,e1⟩:=I.base.slot b o e n hb hx
      exact ⟨sl,(hs.2 b (Nat.ne_of_lt (Nat.lt_of_lt_of_le (Heap.lt_size e) I.ok.above))).trans e1⟩
    · obtain ⟨o',e1⟩:=I.base.there b o e hx
      exact ⟨o',(hs.2 b (Nat.ne_of_lt (Nat.lt_of_lt_of_le (Heap.lt_size e) I.ok.above))).trans e1⟩
    · by_cases hj:j=i
      · subst hj
        rw [hi] at e1;cases e1
        rw [List.getElem?_set_self hiσ] at e2
        cases e2
        exact ⟨u,r,.inl ⟨hk,by simp⟩⟩
      · rw [List.getElem?_set_ne (Ne.symm hj)] at e2
        obtain ⟨u',r',q⟩:=hl j y v' e1 e2 e3
        refine ⟨u',r',?_⟩
        rcases q with ⟨k,e⟩ | ⟨k,c,e,z⟩
        · refine .inl ⟨k,?_⟩
          have:y≠x:=fun e=>hj (nodup_ix hN e1 (e ▸ hi))
          simp [this,e]
        · exact .inr ⟨k,c,e,z.sameBut hs (cne y c e)⟩
    · obtain ⟨w',z⟩:=I.cell y c e
      exact ⟨w',z.sameBut hs (cne y c e)⟩
    · obtain ⟨e,n,ne,nf,d⟩:=I.pin p hp
      exact ⟨(hs.2 p.1 ne).trans e,n,ne,nf,d⟩
  · have hfn:X.fn x=true:=by
      rcases hf with z | z
      · exact z
      · rw [z] at hk;cases hk
    obtain ⟨c,hc⟩:=I.ok.has x (.inl hk)
    obtain ⟨w',z⟩:=I.cell x c hc
    refine wpAny_storeName_cell I.ok.kind hk hc z (fun h' hc' hs=>?_)
    obtain ⟨oc,hoc,hocd⟩:=id z
    refine h { s with heap:=h' } ⟨I.ok,I.os,I.bare,⟨fun b o e n hb hx=>?_,fun b o e n hb hx=>?_,I.base.free,fun b o e hx=>?_,I.base.tups,I.base.frzs,I.base.tbls⟩,⟨m,hn.sameBut hs (Ne.symm (cne x c hc)),fun j y v' e1 e2 e3=>?_⟩,fun y c' e=>?_,I.free,I.freeC,fun p hp=>?_,tracked ⟨oc,hoc,I.freeC x c hc⟩ hs,by simpa using I.len⟩ ⟨c,hs,.inr hc⟩
    · exact (hs.2 b (Nat.ne_of_lt (Nat.lt_of_lt_of_le (Heap.lt_size e) (I.ok.cab x c hfn hc)))).trans (I.base.keep b o e n hb hx)
    · obtain ⟨sl,e1⟩:=I.base.slot b o e n hb hx
      exact ⟨sl,(hs.2 b (Nat.ne_of_lt (Nat.lt_of_lt_of_le (Heap.lt_size e) (I.ok.cab x c hfn hc)))).trans e1⟩
    · obtain ⟨o',e1⟩:=I.base.there b o e hx
      exact ⟨o',(hs.2 b (Nat.ne_of_lt (Nat.lt_of_lt_of_le (Heap.lt_size e) (I.ok.cab x c hfn hc)))).trans e1⟩
    · by_cases hj:j=i
      · subst hj
        rw [hi] at e1;cases e1
        rw [List.getElem?_set_self hiσ] at e2
        cases e2
        exact ⟨u,r,.inr ⟨.inl hk,c,hc,hc'⟩⟩
      · rw [List.getElem?_set_ne (Ne.symm hj)] at e2
        obtain ⟨u',r',q⟩:=hl j y v' e1 e2 e3
        refine ⟨u',r',?_⟩
        rcases q with q | ⟨k,c',e,z'⟩
        · exact .inl q
        · refine .inr ⟨k,c',e,z'.sameBut hs ?_⟩
          rintro rfl
          exact hj (nodup_ix hN e1 (I.ok.inj _ _ _ e hc ▸ hi))
    · by_cases hcc:c'=c
      · subst hcc;exact ⟨_,hc'⟩
      · obtain ⟨w2,z2⟩:=I.cell y c' e
        exact ⟨w2,z2.sameBut hs hcc⟩
    · obtain ⟨e,n,ne,nf,d⟩:=I.pin p hp
      refine ⟨(hs.2 p.1 ?_).trans e,n,ne,nf,d⟩
      intro q
      rw [q,hoc] at e
      have q' : oc=p.2:=Option.some.inj e
      exact d w' (by rw [← q'];exact hocd)
theorem store_ok {M:Model} {A:Around} {E:Value→Shared→Prop} {i:Nat} {x:Str} {v:V} {u:Value} {Q:Unit→Shared→Prop} (I:Inv X pins σ H s) (hN:X.N.Nodup) (hi:X.N[i]?=some x) (hx:Loc X.env.scope x) (r:RelV v u)
    (h:∀ s',Inv X pins (σ.set i (some v)) H s'→Q () s') (hf:X.fn x=true∨X.env.scope.names.lookup x=some .local:=by first | exact .inl rfl | exact .inr rfl | assumption):wpAny M A (storeName X.env x u) Q E s :=
  store_ok2 I hN hi hx r (fun s' I' _=>h s' I') hf
theorem Inv.call' {s' : Shared} {ch:List Addr} (I:Inv X pins σ H s) (ho:s'.os=s.os) (u:Un (frs X.stack) ch H H' s.heap s'.heap) (hok:HOk X.prog X.w H' s'.heap) (hg:AllBare s'.gens)
    (hch:∀ b∈ch,(b∈X.ex∨X.s_0.heap.objs.size≤b)∧b≠X.env.locals∧(∀ x c,X.env.cells.lookup x=some c→c≠b)∧∀ p∈X.pn++pins,p.1≠b):Inv X pins σ H' s':=by
  obtain ⟨h',g',d',t',o'⟩:=s'
  have e:o'=s.os:=ho
  subst e
  exact I.call (g':=g') (t':=t') (d':=d') u hok hg hch
end
abbrev XK:=Value→Option Addr→Hp→Prop
abbrev St:=List (Option V)
abbrev VK:=V→Hp→Prop
abbrev TE:=St→Hp→VK→Prop
abbrev TT:=St→Hp→(Bool→Hp→Prop)→Prop
abbrev TA:=St→Hp→(List V→Hp→Prop)→Prop
structure Ends where
  nx:St→Hp→Prop
  rt:VK
  bk:St→Hp→Prop:=fun _ _=>False
  ct:St→Hp→Prop:=fun _ _=>False
abbrev TS:=Ends→St→Hp→Prop
def EP (X:Cx) (pins:List (Addr × Obj)) (σ:St) (Q:VK) (u:Value) (s' : Shared):Prop:=∃ v H',Inv X pins σ H' s'∧RelV v u∧Q v H'
def TP (X:Cx) (pins:List (Addr × Obj)) (σ:St) (Q:Bool→Hp→Prop) (b:Bool) (s' : Shared):Prop:=∃ H',Inv X pins σ H' s'∧Q b H'
def AP (X:Cx) (pins:List (Addr × Obj)) (σ:St) (Q:List V→Hp→Prop) (us:List Value) (s' : Shared):Prop:=∃ vs H',Inv X pins σ H' s'∧Vals vs us∧Q vs H'
def SP (X:Cx) (pins:List (Addr × Obj)) (D:Ends) (f:Flow) (s' : Shared):Prop :=
  match f with
  | .next=>∃ σ' H',Inv X pins σ' H' s'∧D.nx σ' H'
  | .brk=>∃ σ' H',Inv X pins σ' H' s'∧D.bk σ' H'
  | .cont=>∃ σ' H',Inv X pins σ' H' s'∧D.ct σ' H'
  | .ret u=>∃ v σ' H',Inv X pins σ' H' s'∧RelV v u∧D.rt v H'
def PE (X:Cx) (e:Expr) (t:TE):Prop :=
  ∀ (pins:List (Addr × Obj)) (s:Shared) (σ:St) (H:Hp) (Q:VK),Inv X pins σ H s→t σ H Q→wpAny (model X.prog X.w) X.A (eval e X.env) (EP X pins σ Q) X.xe s
def PT (X:Cx) (e:Expr) (t:TT):Prop :=
  ∀ (pins:List (Addr × Obj)) (s:Shared) (σ:St) (H:Hp) (Q:Bool→Hp→Prop),Inv X pins σ H s→t σ H Q→wpAny (model X.prog X.w) X.A (isTrue e X.env (eval e X.env)) (TP X pins σ Q) X.xe s
def PW (X:Cx) (e:Expr) (t:TT):Prop :=
  ∀ (whole:Sem Value) (pins:List (Addr × Obj)) (s:Shared) (σ:St) (H:Hp) (Q:Bool→Hp→Prop),Inv X pins σ H s→t σ H Q→wpAny (model X.prog X.w) X.A (isTrue e X.env whole) (TP X pins σ Q) X.xe s
theorem PW.pt {X:Cx} {e:Expr} {t:TT} (h:PW X e t):PT X e t:=h _
def PA (X:Cx) (es:List Expr) (t:TA):Prop :=
  ∀ (pos:Pos) (pins:List (Addr × Obj)) (s:Shared) (σ:St) (H:Hp) (Q:List V→Hp→Prop),Inv X pins σ H s→t σ H Q→wpAny (model X.prog X.w) X.A (spliced (backTo pos (starEach es X.env))) (AP X pins σ Q) X.xe s
def PS (X:Cx) (st:Stmt) (t:TS):Prop :=
  ∀ (pins:List (Addr × Obj)) (s:Shared) (σ:St) (H:Hp) (D:Ends),Inv X pins σ H s→t D σ H→wpAny (model X.prog X.w) X.A (exec st X.env) (SP X pins D) X.xe s
def PSs (X:Cx) (st:List Stmt) (t:TS):Prop :=
  ∀ (pins:List (Addr × Obj)) (s:Shared) (σ:St) (H:Hp) (D:Ends),Inv X pins σ H s→t D σ H→wpAny (model X.prog X.w) X.A (execs st X.env) (SP X pins D) X.xe s
theorem thn {α:Type} {t:Sem α} {Q Q' : α→Shared→Prop} {M:Model} {A:Around} {E:Value→Shared→Prop} {s:Shared} (h:wpAny M A t Q E s) (hQ:∀ a s,Q a s→Q' a s):wpAny M A t Q' E s:=wpAny_mono h hQ fun _ _ x=>x
end L2
namespace L2
open PySem PySem.Spec PyProof.Rows
section
variable {X:Cx}
def tVar (i:Nat):TE:=fun σ H Q=>∃ v,σ[i]?=some (some v)∧Q v H
def tC (v:V):TE:=fun _ H Q=>Q v H
theorem pe_var {i:Nat} {x:Str} {pos:Pos} (hN:X.N[i]?=some x) (hv:Vis X.env.scope x) (hd:(x == ("__debug__" : Str))=false:=by decide) (hcd:(x == ("__classdict__" : Str))=false:=by decide):PE X (.Name x pos) (tVar i):=by
  intro pins s σ H Q I h
  obtain ⟨v,e,h⟩:=h
  obtain ⟨m,hn,hl⟩:=I.loc
  obtain ⟨u,r,l⟩:=hl i x v hN e hv
  have fin:EP X pins σ Q u s:=⟨v,H,I,r,h⟩
  rcases l with ⟨hk,hm⟩ | ⟨hk,c,hc,hcell⟩
  · exact wpAny_Name (wpAny_loadName_local I.ok.kind hk hn hm fin) hd
  · rcases hk with hk | hk
    · exact wpAny_Name (wpAny_loadName_cell I.ok.kind hk hc hcell fin) hd
    · exact wpAny_Name (wpAny_loadName_free I.ok.kind hk hc hcell fin hcd) hd
theorem pe_int {i j pos}:PE X (.Constant (.int i) j pos) (tC (.int i)):=fun _ _ _ H _ I h=>wpAny_Constant_int ⟨.int i,H,I.tok _,⟨_,rfl⟩,h⟩
theorem pe_bl {b j pos}:PE X (.Constant (.bool b) j pos) (tC (.bl b)):=fun _ _ _ H _ I h=>Constant_bool ⟨.bl b,H,I,rfl,h⟩
theorem pe_non {j pos}:PE X (.Constant .none j pos) (tC .non):=fun _ _ _ H _ I h=>Constant_none ⟨.non,H,I,rfl,h⟩
def Gl (X:Cx) (x:Str):Prop:=X.env.kindOf x=some .globalImplicit
theorem ld_glob {E:Value→Shared→Prop} {pins:List (Addr × Obj)} {s:Shared} {σ:St} {H:Hp} {x:Str} {u:Value} {pos:Pos} {Q:Value→Shared→Prop} (I:Inv X pins σ H s) (hg:Gl X x) (hm:X.mg x=some u) (h:Q u s)
    (hd:(x == ("__debug__" : Str))=false:=by decide):wpAny (model X.prog X.w) X.A (eval (.Name x pos) X.env) Q E s :=
  Calls.Name_function_global I.ok.kind hg (Calls.loadGlobal_global (by rw [I.ok.glob];exact I.mod.glob.keeps I.bk) hm h) hd
theorem ld_blt {E:Value→Shared→Prop} {pins:List (Addr × Obj)} {s:Shared} {σ:St} {H:Hp} {x:Str} {u:Value} {pos:Pos} {Q:Value→Shared→Prop} (I:Inv X pins σ H s) (hg:Gl X x) (hm:X.mg x=none) (hv:bootBuiltins x=some u) (h:Q u s)
    (hn:x ≠ "__name__":=by decide) (hd:(x == ("__debug__" : Str))=false:=by decide):wpAny (model X.prog X.w) X.A (eval (.Name x pos) X.env) Q E s:=by
  obtain ⟨mb,h1,h2⟩:=I.mod.blt
  exact Calls.Name_function_global I.ok.kind hg (Calls.loadGlobal_builtin (by rw [I.ok.glob];exact I.mod.glob.keeps I.bk) hm (by rw [I.ok.blt];exact h1.keeps I.bk) ((h2 x hn).trans hv) h) hd
theorem pe_glob {x:Str} {v:V} {u:Value} {pos:Pos} (hg:Gl X x) (hm:X.mg x=some u) (r:RelV v u) (hd:(x == ("__debug__" : Str))=false:=by decide):PE X (.Name x pos) (tC v) :=
  fun _ _ _ H _ I h=>ld_glob I hg hm ⟨v,H,I,r,h⟩ hd
variable {a b:Expr} {ta tb:TE} {pos:Pos}
def PC (X:Cx) (op:CmpOp) (a b:Expr) (t:TE):Prop :=
  ∀ (pins:List (Addr × Obj)) (s:Shared) (σ:St) (H:Hp) (Q:VK),Inv X pins σ H s→t σ H Q →
    wpAny (model X.prog X.w) X.A (eval a X.env) (fun v s₁=>wpAny (model X.prog X.w) X.A (eval b X.env) (fun u s₂=>wpAny (model X.prog X.w) X.A (compareOp op v u) (EP X pins σ Q) X.xe s₂) X.xe s₁) X.xe s
theorem nobehind (b:Expr) {op:CmpOp} (h:op≠.In) (h2:op≠.NotIn):behindInMarks op b=false:=by
  have e1:(op == CmpOp.In)=false:=by cases op <;> first | rfl | exact absurd rfl h
  have e2:(op == CmpOp.NotIn)=false:=by cases op <;> first | rfl | exact absurd rfl h2
  cases b <;> simp [behindInMarks,e1,e2]
def tIsN (ta:TE):TE:=fun σ H Q=>ta σ H fun x H1=>Q (.bl (decide (x=.non))) H1
theorem RelV.none_iff {x:V} {v:Value} (r:RelV x v):(v == Value.none)=decide (x=.non):=by
  cases x with
  | non=>cases r;rfl
  | bl _=>cases r;rfl
  | int _=>obtain ⟨t,rfl⟩:=r;rfl
  | str _=>obtain ⟨t,rfl⟩:=r;rfl
  | byt _=>obtain ⟨t,rfl⟩:=r;rfl
  | flt _=>obtain ⟨t,rfl⟩:=r;rfl
  | ref _=>cases r;rfl
  | ty _=>cases r;rfl
theorem pc_isN {j pos'} (ha:PE X a ta):PC X .Is a (.Constant .none j pos') (tIsN ta):=by
  intro pins s σ H Q I h
  refine thn (ha pins s σ H _ I h) fun v s1 ⟨x,H1,I1,r1,q1⟩=>?_
  exact Constant_none (is_none_gen ⟨.bl _,H1,I1,by rw [r1.none_iff];rfl,q1⟩)
def tB (t:TE):TT:=fun σ H Q=>t σ H fun x H1=>∃ c,x=.bl c∧Q c H1
theorem pe_cmp {op:CmpOp} {t:TE} (h:PC X op a b t) (h1:behindInMarks op b=false:=by first | exact nobehind _ (by decide) (by decide) | rfl):PE X (.Compare a [op] [b] pos) t:=fun pins s σ H Q I hw=>wpAny_Compare1 (h pins s σ H Q I hw) h1
theorem pt_cmp {op:CmpOp} {t:TE} (h:PC X op a b t) (h1:behindInMarks op b=false:=by first | exact nobehind _ (by decide) (by decide) | rfl):PT X (.Compare a [op] [b] pos) (tB t):=by
  intro pins s σ H Q I hw
  refine wpAny_isTrue_Compare1 (thn (h pins s σ H _ I hw) fun v s1 h1=>thn h1 fun u s2 h2=>thn h2 fun c s3 ⟨x,H1,I1,r1,q1⟩=>?_) h1
  obtain ⟨d,rfl,q⟩:=q1
  cases r1
  exact wpAny_truthy_bool ⟨H1,I1,q⟩
theorem pt_val {e:Expr} {t:TE} (h:PE X e t) (he:∀ whole,isTrue e X.env whole=(do let v ← whole;standAt e.pos;holding [v] (truthy v)):=by intro _;rfl):PT X e (tB t):=by
  intro pins s σ H Q I hw
  refine isTrue_plain (thn (h pins s σ H _ I hw) fun v s1 ⟨x,H1,I1,r1,q1⟩=>?_) (he _)
  obtain ⟨d,rfl,q⟩:=q1
  cases r1
  exact wpAny_truthy_bool ⟨H1,I1,q⟩
variable {tA tB' : TT} {rest:List Expr}
def tAnd (t u:TT):TT:=fun σ H Q=>t σ H fun c H1=>if c=true then u σ H1 Q else Q false H1
def tOr (t u:TT):TT:=fun σ H Q=>t σ H fun c H1=>if c=true then Q true H1 else u σ H1 Q
def tNot (t:TT):TT:=fun σ H Q=>t σ H fun c H1=>Q (!c) H1
theorem pw_and1 (ha:PT X a tA):PW X (.BoolOp .And [a] pos) tA:=by
  intro wh pins s σ H Q I h
  refine isTrue_and (thn (ha pins s σ H Q I h) fun c s1 e=>?_)
  cases c with
  | true=>exact isTrue_and_nil e
  | false=>exact e
theorem pw_or1 (ha:PT X a tA):PW X (.BoolOp .Or [a] pos) tA:=by
  intro wh pins s σ H Q I h
  refine isTrue_or (thn (ha pins s σ H Q I h) fun c s1 e=>?_)
  cases c with
  | false=>exact isTrue_or_nil e
  | true=>exact e
theorem pw_and (ha:PT X a tA) (hb:PW X (.BoolOp .And (b::rest) pos) tB'):PW X (.BoolOp .And (a::b::rest) pos) (tAnd tA tB'):=by
  intro wh pins s σ H Q I h
  refine isTrue_and (thn (ha pins s σ H _ I h) fun c s1 ⟨H1,I1,q1⟩=>?_)
  cases c with
  | true=>exact hb wh pins s1 σ H1 Q I1 q1
  | false=>exact ⟨H1,I1,q1⟩
theorem pw_or (ha:PT X a tA) (hb:PW X (.BoolOp .Or (b::rest) pos) tB'):PW X (.BoolOp .Or (a::b::rest) pos) (tOr tA tB'):=by
  intro wh pins s σ H Q I h
  refine isTrue_or (thn (ha pins s σ H _ I h) fun c s1 ⟨H1,I1,q1⟩=>?_)
  cases c with
  | true=>exact ⟨H1,I1,q1⟩
  | false=>exact hb wh pins s1 σ H1 Q I1 q1
theorem pt_not (ha:PT X a tA):PT X (.UnaryOp .Not a pos) (tNot tA):=by
  intro pins s σ H Q I h
  exact isTrue_not (ha pins s σ H (fun c H1=>Q (!c) H1) I h)
def tOrV (ta tb:TE):TE:=fun σ H Q=>ta σ H fun x H1=>∃ c,x=.bl c∧if c=true then Q (.bl true) H1 else tb σ H1 Q
theorem pe_one {op} {t:TE} (h:PE X a t):PE X (.BoolOp op [a] pos) t:=fun pins s σ H Q I hw=>BoolOp_one (h pins s σ H Q I hw)
theorem pe_or (ha:PE X a ta) (hb:PE X (.BoolOp .Or (b::rest) pos) tb):PE X (.BoolOp .Or (a::b::rest) pos) (tOrV ta tb):=by
  intro pins s σ H Q I h
  refine BoolOp_or (thn (ha pins s σ H _ I h) fun v s1 ⟨x,H1,I1,r1,q1⟩=>?_)
  obtain ⟨c,rfl,q1⟩:=q1
  cases r1
  refine wpAny_truthy_bool ?_
  cases c with
  | false=>exact hb pins s1 σ H1 Q I1 q1
  | true=>exact ⟨.bl true,H1,I1,rfl,q1⟩
end
end L2
namespace L2
open PySem PySem.Spec PyProof.Rows
def SqL (K:PySem.W.Frag) (H:Hp) (a:Addr) (xs:List V):Prop :=
  Rd H a (.lst xs) ∨
    ∃ (o:Obj) (its:Array Value) (n:Nat),K.lookup a=some o∧o.cls=.type "list"∧o.dict=none∧o.data=.seq its n∧its.size≤sizeLine∧Vals xs its.toList
def SqT (K:PySem.W.Frag) (H:Hp) (a:Addr) (xs:List V):Prop :=
  Rd H a (.tup xs) ∨
    ∃ (o:Obj) (its:Array Value) (n:Nat),K.lookup a=some o∧o.cls=.type "tuple"∧o.data=.seq its n∧its.size≤sizeLine∧Vals xs its.toList
def absV:Value→Option V
  | .none=>some .non
  | .bool b=>some (.bl b)
  | .int i _=>some (.int i)
  | .str x _=>some (.str x)
  | .bytes b _=>some (.byt b)
  | .float b _=>some (.flt b)
  | .ref a=>some (.ref a)
  | .type n=>some (.ty n)
  | _=>none
theorem RelV.abs {x:V} {u:Value} (r:RelV x u):absV u=some x:=by
  cases x with
  | non=>cases r;rfl
  | bl _=>cases r;rfl
  | int _=>obtain ⟨t,rfl⟩:=r;rfl
  | str _=>obtain ⟨t,rfl⟩:=r;rfl
  | byt _=>obtain ⟨t,rfl⟩:=r;rfl
  | flt _=>obtain ⟨t,rfl⟩:=r;rfl
  | ref _=>cases r;rfl
  | ty _=>cases r;rfl
theorem RelV.inj {x y:V} {u:Value} (r:RelV x u) (q:RelV y u):x=y:=Option.some.inj (r.abs.symm.trans q.abs)
theorem Vals.inj:∀ {xs ys:List V} {us:List Value},Vals xs us→Vals ys us→xs=ys
  | _,_,_,.nil,.nil=>rfl
  | _,_,_,.cons r t,.cons r' t'=>by rw [r.inj r',Vals.inj t t']
section
variable {X:Cx} {pins:List (Addr × Obj)} {σ:St} {H:Hp} {s:Shared} {a:Addr} {xs ys:List V}
theorem SqL.of {K:PySem.W.Frag} (h:H a=some (.lst xs)):SqL K H a xs:=.inl (.inl h)
theorem SqT.of {K:PySem.W.Frag} (h:H a=some (.tup xs)):SqT K H a xs:=.inl (.inl h)
theorem Inv.list (I:Inv X pins σ H s) (h:SqL X.K H a xs):∃ its:List Value,Vals xs its∧PlainL s.heap a its.toArray∧xs.length≤sizeLine:=by
  rcases h with h | ⟨o,its,n,hk,hc,hd,hs,hz,r⟩
  · obtain ⟨z,its,n,r,e⟩:=h.ok I.hok
    exact ⟨its,r,⟨_,n,e,rfl,rfl,rfl⟩,z⟩
  · refine ⟨its.toList,r,⟨o,n,I.kIn a o hk,hc,hd,by simpa using hs⟩,?_⟩
    have e:=r.length
    simp only [Array.length_toList] at e
    omega
theorem Inv.tuple (I:Inv X pins σ H s) (h:SqT X.K H a xs):∃ its:List Value,Vals xs its∧IsTup s.heap a its.toArray∧xs.length≤sizeLine:=by
  rcases h with h | ⟨o,its,n,hk,hc,hs,hz,r⟩
  · obtain ⟨z,its,r,p⟩:=h.ok I.hok
    exact ⟨its,r,p,z⟩
  · refine ⟨its.toList,r,⟨o,I.kIn a o hk,hc,n,by simpa using hs⟩,?_⟩
    have e:=r.length
    simp only [Array.length_toList] at e
    omega
theorem Inv.list_inj (I:Inv X pins σ H s) (h:SqL X.K H a xs) (h' : SqL X.K H a ys):xs=ys:=by
  obtain ⟨its,r,⟨o,n,e,_,_,d⟩,_⟩:=I.list h
  obtain ⟨its',r',⟨o',n',e',_,_,d'⟩,_⟩:=I.list h'
  rw [e] at e';cases e'
  rw [d] at d'
  injection d' with d1 _
  have:its=its':=by simpa using congrArg Array.toList d1
  subst this
  exact r.inj r'
theorem Inv.tuple_inj (I:Inv X pins σ H s) (h:SqT X.K H a xs) (h' : SqT X.K H a ys):xs=ys:=by
  obtain ⟨its,r,⟨o,e,_,n,d⟩,_⟩:=I.tuple h
  obtain ⟨its',r',⟨o',e',_,n',d'⟩,_⟩:=I.tuple h'
  rw [e] at e';cases e'
  rw [d] at d'
  injection d' with d1 _
  have:its=its':=by simpa using congrArg Array.toList d1
  subst this
  exact r.inj r'
end
abbrev Cx.wish (X:Cx) (E:Value→Shared→Prop):Cx:={ X with xe:=E }
abbrev Cx.nox (X:Cx):Cx:=X.wish fun _ _=>False
theorem Cx.Ok.wish {X:Cx} (ok:X.Ok) (E:Value→Shared→Prop):(X.wish E).Ok :=
  ⟨ok.mod,ok.kind,ok.glob,ok.blt,ok.above,ok.inj,ok.has,ok.cab,ok.hd,ok.frames,ok.stk,ok.exf,ok.bs,ok.bsz,ok.noex,ok.exfs,ok.funs,ok.frf⟩
theorem Cx.Ok.unwish {X:Cx} {E:Value→Shared→Prop} (ok:(X.wish E).Ok):X.Ok :=
  ⟨ok.mod,ok.kind,ok.glob,ok.blt,ok.above,ok.inj,ok.has,ok.cab,ok.hd,ok.frames,ok.stk,ok.exf,ok.bs,ok.bsz,ok.noex,ok.exfs,ok.funs,ok.frf⟩
section
variable {X:Cx} {pins:List (Addr × Obj)} {σ:St} {H:Hp} {s:Shared} {E:Value→Shared→Prop}
theorem Inv.wish (I:Inv X pins σ H s) (E:Value→Shared→Prop):Inv (X.wish E) pins σ H s:=⟨I.ok.wish E,I.os,I.bare,I.base,I.loc,I.cell,I.free,I.freeC,I.pin,I.hok,I.len⟩
theorem Inv.unwish (I:Inv (X.wish E) pins σ H s):Inv X pins σ H s:=⟨I.ok.unwish,I.os,I.bare,I.base,I.loc,I.cell,I.free,I.freeC,I.pin,I.hok,I.len⟩
theorem SP.unwish {D:Ends} {f:Flow} {s' : Shared} (h:SP (X.wish E) pins D f s'):SP X pins D f s':=by
  cases f with
  | next=>obtain ⟨σ',H',I,q⟩:=h;exact ⟨σ',H',I.unwish,q⟩
  | brk=>obtain ⟨σ',H',I,q⟩:=h;exact ⟨σ',H',I.unwish,q⟩
  | cont=>obtain ⟨σ',H',I,q⟩:=h;exact ⟨σ',H',I.unwish,q⟩
  | ret u=>obtain ⟨v,σ',H',I,r,q⟩:=h;exact ⟨v,σ',H',I.unwish,r,q⟩
theorem PSs.nox {st:List Stmt} {t:TS} (h:PSs X.nox st t):PSs X st t:=fun pins s σ H D I hw =>
  wpAny_mono (h pins s σ H D (I.wish _) hw) (fun _ _ q=>q.unwish) fun _ _ z=>False.elim z
end
section
variable {X:Cx} {st:Stmt} {rest:List Stmt} {t u:TS} {e:Expr} {te:TE} {pos:Pos}
def tNext:TS:=fun D σ H=>D.nx σ H
def tSeq (t u:TS):TS:=fun D σ H=>t { D with nx:=u D } σ H
theorem pss_nil:PSs X [] tNext:=fun _ _ σ H _ I h=>wpAny_execs_nil ⟨σ,H,I,h⟩
theorem pss_cons (h1:PS X st t) (h2:PSs X rest u):PSs X (st::rest) (tSeq t u):=by
  intro pins s σ H D I h
  refine wpAny_execs_cons (thn (h1 pins s σ H { D with nx:=u D } I h) fun f s1 q=>?_)
  cases f with
  | next =>
    obtain ⟨σ',H',I',q⟩:=q
    exact h2 pins s1 σ' H' D I' q
  | ret v=>exact q
  | brk=>exact q
  | cont=>exact q
theorem pss_one (h1:PS X st t):PSs X [st] t:=by
  intro pins s σ H D I h
  refine wpAny_execs_cons (thn (h1 pins s σ H D I h) fun f s1 q=>?_)
  cases f with
  | next=>exact wpAny_execs_nil q
  | ret v=>exact q
  | brk=>exact q
  | cont=>exact q
theorem Inv.quiet {pins:List (Addr × Obj)} {σ:St} {H:Hp} {s:Shared} (I:Inv X pins σ H s):interactive X.env=false:=by simp [interactive,I.ok.kind]
def tDrop (te:TE):TS:=fun D σ H=>te σ H fun _ H1=>D.nx σ H1
theorem ps_expr (he:PE X e te) (hs:swapsWith e none pos.line X.env=pure false:=by rfl):PS X (.Expr e pos) (tDrop te):=by
  intro pins s σ H D I h
  exact wpAny_Expr_any (thn (he pins s σ H _ I h) fun v s1 ⟨x,H1,I1,r1,q1⟩=>⟨σ,H1,I1,q1⟩) I.quiet hs
def tRet (te:TE):TS:=fun D σ H=>te σ H D.rt
theorem ps_ret (he:PE X e te):PS X (.Return (some e) pos) (tRet te):=by
  intro pins s σ H D I h
  exact wpAny_Return_some (thn (he pins s σ H _ I h) fun v s1 ⟨x,H1,I1,r1,q1⟩=>⟨x,σ,H1,I1,r1,q1⟩)
def tIfS (c:TT) (t u:TS):TS:=fun D σ H=>c σ H fun b H1=>if b=true then t D σ H1 else u D σ H1
theorem ps_if {c:Expr} {a b:List Stmt} {tc:TT} (hc:PT X c tc) (ha:PSs X a t) (hb:PSs X b u):PS X (.If c a b pos) (tIfS tc t u):=by
  intro pins s σ H D I h
  refine wpAny_If (thn (hc pins s σ H _ I h) fun d s1 ⟨H1,I1,q1⟩=>?_)
  cases d with
  | true=>exact ha pins s1 σ H1 D I1 q1
  | false=>exact hb pins s1 σ H1 D I1 q1
end
abbrev TG:=V→St→Hp→(St→Hp→Prop)→Prop
abbrev TGs:=List V→St→Hp→(St→Hp→Prop)→Prop
def PG (X:Cx) (target:Expr) (t:TG):Prop :=
  ∀ (pins:List (Addr × Obj)) (s:Shared) (σ:St) (H:Hp) (v:V) (u:Value) (Q:St→Hp→Prop),Inv X pins σ H s→RelV v u→t v σ H Q →
    wpAny (model X.prog X.w) X.A (assign target X.env u) (fun _ s'=>∃ σ' H',Inv X pins σ' H' s'∧Q σ' H') X.xe s
def PGs (X:Cx) (ts:List Expr) (t:TGs):Prop :=
  ∀ (pins:List (Addr × Obj)) (s:Shared) (σ:St) (H:Hp) (vs:List V) (us:List Value) (Q:St→Hp→Prop),Inv X pins σ H s→Vals vs us→t vs σ H Q →
    wpAny (model X.prog X.w) X.A (assignInOrder ((assignEach ts X.env).map (·.2)) us) (fun _ s'=>∃ σ' H',Inv X pins σ' H' s'∧Q σ' H') X.xe s
section
variable {X:Cx} {pos:Pos}
def gName (i:Nat):TG:=fun v σ H Q=>Q (σ.set i (some v)) H
theorem pg_name {i:Nat} {x:Str} (hN:X.N.Nodup) (hi:X.N[i]?=some x) (hx:Loc X.env.scope x) (hf:X.fn x=true∨X.env.scope.names.lookup x=some .local:=by first | exact .inl rfl | exact .inr rfl | assumption):PG X (.Name x pos) (gName i):=by
  intro pins s σ H v u Q I r h
  exact wpAny_assign_Name (store_ok I hN hi hx r (fun s' I'=>⟨_,H,I',h⟩) hf)
def gNil:TGs:=fun vs σ H Q=>vs=[]∧Q σ H
def gCons (t:TG) (u:TGs):TGs:=fun vs σ H Q=>∃ v r,vs=v::r∧t v σ H fun σ' H'=>u r σ' H' Q
theorem pgs_nil:PGs X [] gNil:=by
  intro pins s σ H vs us Q I r h
  obtain ⟨e,h⟩:=h
  subst e
  cases r
  exact assignInOrder_nil ⟨σ,H,I,h⟩
theorem pgs_cons {e:Expr} {es:List Expr} {t:TG} {u:TGs} (h1:PG X e t) (h2:PGs X es u)
    (hs:(assignEach (e::es) X.env).map (·.2)=assign e X.env::(assignEach es X.env).map (·.2):=by rfl):PGs X (e::es) (gCons t u):=by
  intro pins s σ H vs us Q I r h
  obtain ⟨v,vr,e1,h⟩:=h
  subst e1
  cases r with
  | cons r rr =>
    rw [hs]
    refine assignInOrder_cons (thn (h1 pins s σ H _ _ _ I r h) fun _ s1 ⟨σ1,H1,I1,q1⟩=>?_)
    exact h2 pins s1 σ1 H1 _ _ Q I1 rr q1
def gTup (K:PySem.W.Frag) (n:Nat) (t:TGs):TG:=fun v σ H Q=>∃ a xs,v=.ref a∧SqT K H a xs∧xs.length=n∧t xs σ H Q
theorem pg_tup {es:List Expr} {k:Nat} {t:TGs} {n:Nat} (hc:X.calm=true) (h:PGs X es t)
    (hn:(assignEach es X.env).length=n:=by rfl) (hst:(assignEach es X.env).findIdx? (·.1)=none:=by rfl):PG X (.Tuple es k pos) (gTup X.K n t):=by
  intro pins s σ H v u Q I r hw
  obtain ⟨a,xs,e1,hq,hl,hw⟩:=hw
  subst e1
  cases r
  obtain ⟨its,rv,ht,hz⟩:=I.tuple hq
  refine assign_Tuple_tuple (I.ok.hd hc) ht (by simp [hn,← hl,rv.length]) hst fun h' hx=>?_
  have I1:Inv X pins σ H { s with heap:=h' }:=I.kept (t':=s.toks) fun b o e=>hx b o (Nat.ne_of_lt (Heap.lt_size e)) e
  exact h pins _ σ H xs _ Q I1 (by simpa using rv) hw
def tAsg (te:TE) (g:TG):TS:=fun D σ H=>te σ H fun x H1=>g x σ H1 D.nx
theorem ps_set {i:Nat} {x:Str} {e:Expr} {te:TE} {pos' : Pos} (hN:X.N.Nodup) (hi:X.N[i]?=some x) (hx:Loc X.env.scope x) (he:PE X e te) (hs:swapsWith e (some (.Name x pos')) pos.line X.env=pure false:=by rfl) (hf:X.fn x=true∨X.env.scope.names.lookup x=some .local:=by first | exact .inl rfl | exact .inr rfl | assumption) :
    PS X (.Assign [.Name x pos'] e pos) (tAsg te (gName i)):=by
  intro pins s σ H D I h
  refine wpAny_Assign_Name (thn (he pins s σ H _ I h) fun v s1 ⟨y,H1,I1,r1,q1⟩=>?_) hs
  exact store_ok I1 hN hi hx r1 (fun s2 I2=>⟨_,H1,I2,q1⟩) hf
end
section
variable {X:Cx} {pos:Pos}
def tWhile (c:TT) (tb:TS):TS:=fun D σ H=>∃ W:Nat→St→Hp→Prop,(∃ m,W m σ H)∧∀ m σ H,W m σ H →
  c σ H fun b H1=>if b=true then ∃ N:St→Hp→Prop,(∀ σ' H',N σ' H'→∃ m',m'<m∧W m' σ' H')∧tb { D with nx:=N,ct:=N,bk:=D.nx } σ H1 else D.nx σ H1
theorem ps_while {c:Expr} {body:List Stmt} {tc:TT} {tb:TS} (hp:PassesOwn (model X.prog X.w) X.A X.env X.xe) (hc:PT X c tc) (hb:PSs X body tb):PS X (.While c body [] pos) (tWhile tc tb):=by
  intro pins s σ H D I h
  obtain ⟨W,⟨m0,w0⟩,turn⟩:=h
  refine wpAny_While (codeAny_whileLoop (fun n s'=>∃ σ' H',Inv X pins σ' H' s'∧W n σ' H') ?_ m0 ⟨σ,H,I,w0⟩)
  rintro n s1 ⟨σ1,H1,I1,w1⟩
  refine wpAny_passesOwn hp (thn (hc pins s1 σ1 H1 _ I1 (turn n σ1 H1 w1)) fun b s2 ⟨H2,I2,q2⟩=>?_)
  cases b with
  | true =>
    obtain ⟨N,hN,q2⟩:=q2
    rw [if_pos rfl]
    refine wpAny_passesOwn hp (thn (hb pins s2 σ1 H2 _ I2 q2) fun f s3 q3=>?_)
    cases f with
    | next =>
      obtain ⟨σ3,H3,I3,n3⟩:=q3
      obtain ⟨m',hm,w3⟩:=hN σ3 H3 n3
      exact ⟨m',hm,σ3,H3,I3,w3⟩
    | cont =>
      obtain ⟨σ3,H3,I3,n3⟩:=q3
      obtain ⟨m',hm,w3⟩:=hN σ3 H3 n3
      exact ⟨m',hm,σ3,H3,I3,w3⟩
    | brk=>exact q3
    | ret v=>exact q3
  | false =>
    rw [if_neg Bool.false_ne_true]
    exact wpAny_execs_nil ⟨σ1,H2,I2,q2⟩
end
structure It where
  go:Nat→Hp→Prop
  yld:Nat→Hp→V→Hp→Prop
  stop:Nat→Hp→Prop
def FpOk (X:Cx) (pins:List (Addr × Obj)) (H:Hp) (b:Addr):Prop :=
  H b=none∧b≠X.env.locals∧b∉X.fs∧(b∈X.ex∨X.s_0.heap.objs.size≤b)∧(∀ x c,X.env.cells.lookup x=some c→c≠b)∧∀ p∈X.pn++pins,p.1≠b
theorem Inv.fpOk {X:Cx} {pins:List (Addr × Obj)} {σ:St} {H H' : Hp} {s:Shared} {b:Addr} (I:Inv X pins σ H s) (hb:s.heap.objs.size≤b) (hn:H' b=none):FpOk X pins H' b:=by
  refine ⟨hn,Nat.ne_of_gt (Nat.lt_of_lt_of_le I.lt hb),I.nofs hb,.inr (Nat.le_trans I.sz hb),fun x c e z=>?_,fun p hp z=>?_⟩
  · obtain ⟨v,q⟩:=I.cell x c e
    exact absurd (Nat.lt_of_lt_of_le q.lt (by rw [z];exact hb)) (Nat.lt_irrefl _)
  · exact absurd (Nat.lt_of_lt_of_le (Heap.lt_size (I.pin p hp).1) (by rw [z];exact hb)) (Nat.lt_irrefl _)
structure Turn (P:Program) (w:World) (K:PySem.W.Frag) (tg:Expr) (J:It) (fp:List Addr) (it:Addr) (tn:Nat→Heap→Prop):Prop where
  mem:it∈fp
  obj:∀ i h,tn i h→∀ b∈fp,∃ o,h.get? b=some o∧∀ v,o.data≠.cell v
  keep:∀ i h h',tn i h→(∀ b∈fp,∀ o,h.get? b=some o→h'.get? b=some o)→tn i h'
  item:∀ (X:Cx),X.prog=P→X.w=w→X.K=K→X.calm=true→∀ (i:Nat) (pins:List (Addr × Obj)) (s:Shared) (σ:St) (H:Hp) (E:Value→Shared→Prop),Inv X pins σ H s→(∀ b∈fp,FpOk X pins H b)→tn i s.heap→J.go i H →
    wpAny (model P w) X.A (pyNext (.ref it)) (fun r s1=>∃ u,r=some u ∧
      wpAny (model P w) X.A (letOwnedTupleGo tg (.ref it) u) (fun _ s2=>∃ x H',Inv X pins σ H' s2∧RelV x u∧J.yld i H x H'∧tn (i+1) s2.heap∧∀ b∈fp,H' b=none) E s1) E s
  done:∀ (X:Cx),X.prog=P→X.w=w→X.K=K→X.calm=true→∀ (i:Nat) (pins:List (Addr × Obj)) (s:Shared) (σ:St) (H:Hp) (E:Value→Shared→Prop),Inv X pins σ H s→(∀ b∈fp,FpOk X pins H b)→tn i s.heap→J.stop i H →
    wpAny (model P w) X.A (pyNext (.ref it)) (fun r s1=>r=none∧Inv X pins σ H s1) E s
  self:∀ (A:Around) (i:Nat) (s:Shared) (Q:Value→Shared→Prop) (E:Value→Shared→Prop),tn i s.heap→Q (.ref it) s→wpAny (model P w) A (pyIter (.ref it)) Q E s
abbrev TI:=St→Hp→(It→Hp→Prop)→Prop
def PIE (X:Cx) (pins:List (Addr × Obj)) (σ:St) (tg:Expr) (R:It→Hp→Prop) (itv:Value) (s2:Shared):Prop :=
  ∃ (it:Addr) (fp:List Addr) (tn:Nat→Heap→Prop) (J:It) (H' : Hp),itv=.ref it∧Inv X pins σ H' s2∧Turn X.prog X.w X.K tg J fp it tn∧tn 0 s2.heap∧(∀ b∈fp,FpOk X pins H' b)∧R J H'
def PI (X:Cx) (tg iter:Expr) (wi:TI):Prop :=
  ∀ (pins:List (Addr × Obj)) (s:Shared) (σ:St) (H:Hp) (R:It→Hp→Prop),Inv X pins σ H s→wi σ H R →
    wpAny (model X.prog X.w) X.A (eval iter X.env) (fun v s1=>wpAny (model X.prog X.w) X.A (pyIter v) (PIE X pins σ tg R) X.xe s1) X.xe s
theorem go_of {M:Model} {A:Around} {E:Value→Shared→Prop} {s:Shared} {tg:Expr} {it:Addr} {u:Value} {o:Obj} {n:String} {vs:Array Value} {Q:Unit→Shared→Prop} (ho:s.heap.get? it=some o) (hc:o.cls=.type n) (hd:o.data=.fields vs)
    (hn:["enumerate", "zip", "dict_itemiterator", "dict_reverseitemiterator", "odict_iterator", "itertools.zip_longest", "itertools.pairwise"].contains n=false) (hQ:Q () s):wpAny M A (letOwnedTupleGo tg (.ref it) u) Q E s:=by
  unfold letOwnedTupleGo
  cases tg <;> first
    | exact wpAny_pure hQ
    | (cases u <;> first
        | exact wpAny_pure hQ
        | (refine wpAny_bind (wpAny_load ho ?_)
           rw [hc,hd]
           show wpAny M A (if (["enumerate", "zip", "dict_itemiterator", "dict_reverseitemiterator", "odict_iterator", "itertools.zip_longest", "itertools.pairwise"].contains n && vs[0]? == some (rawInt _))=true then _ else _) Q E s
           rw [if_neg (by intro h;rw [hn,Bool.false_and] at h;cases h)]
           exact wpAny_pure hQ))
def Itl (K:PySem.W.Frag) (a:Addr):It :=
  ⟨fun i H=>∃ xs x,SqL K H a xs∧xs[i]?=some x,fun i H x H'=>H'=H∧∀ xs,SqL K H a xs→xs[i]?=some x,fun i H=>∃ xs,SqL K H a xs∧xs.length≤i⟩
def Itt (K:PySem.W.Frag) (a:Addr):It :=
  ⟨fun i H=>∃ xs x,SqT K H a xs∧xs[i]?=some x,fun i H x H'=>H'=H∧∀ xs,SqT K H a xs→xs[i]?=some x,fun i H=>∃ xs,SqT K H a xs∧xs.length≤i⟩
def Itr (lo:Int) (n:Nat):It:=⟨fun i _=>i<n,fun i H x H'=>H'=H∧x=.int (lo+i),fun i _=>n≤i⟩
theorem turn_list {P:Program} {w:World} {K:PySem.W.Frag} {tg:Expr} (a it:Addr):Turn P w K tg (Itl K a) [it] it (fun i h=>h.IsListIter it a i) where
  mem:=by simp
  obj:=fun i h st b hb=>by
    have e:b=it:=by simpa using hb
    subst e
    obtain ⟨o,e,c,d⟩:=st
    exact ⟨o,e,fun v z=>by rw [d] at z;cases z⟩
  keep:=fun i h h' st k=>st.at fun o e=>k it (by simp) o e
  item:=by
    intro X hP hw hK hc i pins s σ H E I hf st hg
    subst hP hw hK
    obtain ⟨xs,x,hq,hx⟩:=hg
    obtain ⟨its,rv,p,hz⟩:=I.list hq
    obtain ⟨u,hu,ru⟩:=rv.get hx
    obtain ⟨f0,f1,f2,f3,f4,f5⟩:=hf it (by simp)
    refine wpAny_pyNext_list_item st p.isList (x:=u) (by simpa using hu) fun h' st' sb=>?_
    have I1:Inv X pins σ H { s with heap:=h' }:=I.turned (t':=s.toks) (fun b o hb e=>(sb.2 b hb).trans e) f0 f1 f3 f4 f5
    obtain ⟨o,e,c,d⟩:=id st'
    exact ⟨u,rfl,go_of (s:={ s with heap:=h' }) e c d (by decide) ⟨x,H,I1,ru,⟨rfl,fun ys hy=>by rw [I.list_inj hy hq];exact hx⟩,st',fun b hb=>(hf b hb).1⟩⟩
  done:=by
    intro X hP hw hK hc i pins s σ H E I hf st hg
    subst hP hw hK
    obtain ⟨xs,hq,hx⟩:=hg
    obtain ⟨its,rv,p,hz⟩:=I.list hq
    obtain ⟨f0,f1,f2,f3,f4,f5⟩:=hf it (by simp)
    have hl:=rv.length
    exact wpAny_pyNext_list_end (I.ok.hd hc) st p.isList (by simp;omega) fun h' eb=>⟨rfl,I.turned (t':=s.toks) (fun b o hb e=>eb b o hb e) f0 f1 f3 f4 f5⟩
  self:=fun _ _ _ _ _ st h=>wpAny_pyIter_listiter st h
theorem turn_tuple {P:Program} {w:World} {K:PySem.W.Frag} {tg:Expr} (a it:Addr):Turn P w K tg (Itt K a) [it] it (fun i h=>h.IsTupleIter it a i) where
  mem:=by simp
  obj:=fun i h st b hb=>by
    have e:b=it:=by simpa using hb
    subst e
    obtain ⟨o,e,c,d⟩:=st
    exact ⟨o,e,fun v z=>by rw [d] at z;cases z⟩
  keep:=fun i h h' st k=>st.at fun o e=>k it (by simp) o e
  item:=by
    intro X hP hw hK hc i pins s σ H E I hf st hg
    subst hP hw hK
    obtain ⟨xs,x,hq,hx⟩:=hg
    obtain ⟨its,rv,p,hz⟩:=I.tuple hq
    obtain ⟨u,hu,ru⟩:=rv.get hx
    obtain ⟨f0,f1,f2,f3,f4,f5⟩:=hf it (by simp)
    refine wpAny_pyNext_tuple_item st (show s.heap.IsTuple a its.toArray from p) (x:=u) (by simpa using hu) fun h' st' sb=>?_
    have I1:Inv X pins σ H { s with heap:=h' }:=I.turned (t':=s.toks) (fun b o hb e=>(sb.2 b hb).trans e) f0 f1 f3 f4 f5
    obtain ⟨o,e,c,d⟩:=id st'
    exact ⟨u,rfl,go_of (s:={ s with heap:=h' }) e c d (by decide) ⟨x,H,I1,ru,⟨rfl,fun ys hy=>by rw [I.tuple_inj hy hq];exact hx⟩,st',fun b hb=>(hf b hb).1⟩⟩
  done:=by
    intro X hP hw hK hc i pins s σ H E I hf st hg
    subst hP hw hK
    obtain ⟨xs,hq,hx⟩:=hg
    obtain ⟨its,rv,p,hz⟩:=I.tuple hq
    obtain ⟨f0,f1,f2,f3,f4,f5⟩:=hf it (by simp)
    have hl:=rv.length
    exact wpAny_pyNext_tuple_end (I.ok.hd hc) st (show s.heap.IsTuple a its.toArray from p) (by simp;omega) fun h' eb=>⟨rfl,I.turned (t':=s.toks) (fun b o hb e=>eb b o hb e) f0 f1 f3 f4 f5⟩
  self:=fun _ _ _ _ _ st h=>wpAny_pyIter_tupleiter st h
theorem turn_range {P:Program} {w:World} {K:PySem.W.Frag} {tg:Expr} (it:Addr) (lo:Int) (n:Nat):Turn P w K tg (Itr lo n) [it] it (fun i h=>IsRangeIter h it (lo+(i:Nat)*1) ((n:Int) - (i:Nat)) 1) where
  mem:=by simp
  obj:=fun i h st b hb=>by
    have e:b=it:=by simpa using hb
    subst e
    exact ⟨_,st,fun v z=>by
      have z' : Data.fields _=Data.cell v:=z
      cases z'⟩
  keep:=fun i h h' st k=>k it (by simp) _ st
  item:=by
    intro X hP hw hK hc i pins s σ H E I hf st hg
    subst hP hw hK
    obtain ⟨f0,f1,f2,f3,f4,f5⟩:=hf it (by simp)
    have W:=Walks.range (prog:=X.prog) (w:=X.w) (I.ok.hd hc) it lo 1 n
    refine W.item i s _ _ hg st fun v h' tk hv st' kk=>?_
    obtain ⟨t,rfl⟩:=hv
    have I1:Inv X pins σ H { s with heap:=h',toks:=tk }:=I.turned (fun b o hb e=>kk b o (by simpa using hb) e) f0 f1 f3 f4 f5
    refine ⟨_,rfl,go_of (s:={ s with heap:=h',toks:=tk }) (n := "range_iterator") st' rfl rfl (by decide) ⟨.int (lo+i),H,I1,⟨t,?_⟩,⟨rfl,rfl⟩,st',fun b hb=>(hf b hb).1⟩⟩
    rw [Int.mul_one]
  done:=by
    intro X hP hw hK hc i pins s σ H E I hf st hg
    subst hP hw hK
    obtain ⟨f0,f1,f2,f3,f4,f5⟩:=hf it (by simp)
    exact wpAny_pyNext_range_end (I.ok.hd hc) st (by have:n≤i:=hg;omega) fun h' eb=>⟨rfl,I.turned (t':=s.toks) (fun b o hb e=>eb b o hb e) f0 f1 f3 f4 f5⟩
  self:=fun _ _ _ _ _ st h=>wpAny_pyIter_rangeiter st h
end L2
namespace L2
open PySem PySem.Spec PyProof.Rows
section
variable {X:Cx} {tg:Expr}
def iList (K:PySem.W.Frag) (tl:TE):TI:=fun σ H R=>tl σ H fun x H1=>∃ a,x=.ref a∧(∃ xs,SqL K H1 a xs)∧R (Itl K a) H1
def iTup (K:PySem.W.Frag) (tl:TE):TI:=fun σ H R=>tl σ H fun x H1=>∃ a,x=.ref a∧(∃ xs,SqT K H1 a xs)∧R (Itt K a) H1
theorem pi_list {l:Expr} {tl:TE} (hl:PE X l tl):PI X tg l (iList X.K tl):=by
  intro pins s σ H R I h
  refine thn (hl pins s σ H _ I h) fun v s1 ⟨x,H1,I1,r1,q1⟩=>?_
  obtain ⟨a,e,⟨xs,hq⟩,q⟩:=q1
  subst e
  cases r1
  obtain ⟨its,rv,p,hz⟩:=I1.list hq
  refine wpAny_pyIter_list p.isList ?_
  refine ⟨s1.heap.objs.size,[s1.heap.objs.size],_,_,H1,rfl,I1.kept (t':=s1.toks) fun b o e=>Heap.get?_push_of_some _ e,turn_list a _,⟨_,Heap.get?_push_size _ rfl,rfl,rfl⟩,fun b hb=>?_,q⟩
  have e:b=s1.heap.objs.size:=by simpa using hb
  subst e
  exact I1.fpOk (Nat.le_refl _) (I1.hok.fresh (Nat.le_refl _))
theorem pi_tup {l:Expr} {tl:TE} (hl:PE X l tl):PI X tg l (iTup X.K tl):=by
  intro pins s σ H R I h
  refine thn (hl pins s σ H _ I h) fun v s1 ⟨x,H1,I1,r1,q1⟩=>?_
  obtain ⟨a,e,⟨xs,hq⟩,q⟩:=q1
  subst e
  cases r1
  obtain ⟨its,rv,p,hz⟩:=I1.tuple hq
  refine wpAny_pyIter_tuple (show s1.heap.IsTuple a its.toArray from p) ?_
  refine ⟨s1.heap.objs.size,[s1.heap.objs.size],_,_,H1,rfl,I1.kept (t':=s1.toks) fun b o e=>Heap.get?_push_of_some _ e,turn_tuple a _,⟨_,Heap.get?_push_size _ rfl,rfl,rfl⟩,fun b hb=>?_,q⟩
  have e:b=s1.heap.objs.size:=by simpa using hb
  subst e
  exact I1.fpOk (Nat.le_refl _) (I1.hok.fresh (Nat.le_refl _))
theorem range_it {pins:List (Addr × Obj)} {σ:St} {H:Hp} {s:Shared} {R:It→Hp→Prop} {E:Value→Shared→Prop} {lo hi:Int} {t u v:Tok} {tk:Nat} (I:Inv X pins σ H s) (h1 : -(2 ^ 62)≤lo) (h2:lo<2 ^ 62) (h3 : -(2 ^ 62)≤hi) (h4:hi<2 ^ 62)
    (q:R (Itr lo (hi - lo).toNat) H):wpAny (model X.prog X.w) X.A (pyIter (.ref s.heap.objs.size)) (PIE X pins σ tg R) E { s with heap:=s.heap.push { cls:=.type "range",data:=.fields #[.int lo t,.int hi u,.int 1 v] },toks:=tk }:=by
  refine wpAny_pyIter_range (IsRange.new ..) (small_one h1 h2 h3 h4) ?_
  have I1:Inv X pins σ H { s with heap:=s.heap.push { cls:=.type "range",data:=.fields #[.int lo t,.int hi u,.int 1 v] },toks:=tk }:=I.kept fun b o e=>Heap.get?_push_of_some _ e
  refine ⟨(s.heap.push { cls:=.type "range",data:=.fields #[.int lo t,.int hi u,.int 1 v] }).objs.size,[(s.heap.push { cls:=.type "range",data:=.fields #[.int lo t,.int hi u,.int 1 v] }).objs.size],_,_,H,rfl,
    I1.kept (t':=tk) fun b o e=>Heap.get?_push_of_some _ e,turn_range _ lo (hi - lo).toNat,?_,fun b hb=>?_,q⟩
  · have e1:lo+((0:Nat):Int)*1=lo:=by simp
    have e2:(((hi - lo).toNat:Nat):Int) - ((0:Nat):Int)=Builtin.Range.rangeSize lo hi 1:=by rw [rangeSize_one];split <;> omega
    show IsRangeIter _ _ (lo+((0:Nat):Int)*1) ((((hi - lo).toNat:Nat):Int) - ((0:Nat):Int)) 1
    rw [e1,e2]
    exact Heap.get?_push_size _ rfl
  · have e:b=(s.heap.push { cls:=.type "range",data:=.fields #[.int lo t,.int hi u,.int 1 v] }).objs.size:=by simpa using hb
    subst e
    exact I1.fpOk (Nat.le_refl _) (I1.hok.fresh (Nat.le_refl _))
def iRng1 (ta:TA):TI:=fun σ H R=>ta σ H fun vs H1=>∃ j:Int,vs=[.int j]∧-(2 ^ 62)≤j∧j<2 ^ 62∧R (Itr 0 j.toNat) H1
def iRng2 (ta:TA):TI:=fun σ H R=>ta σ H fun vs H1=>∃ i j:Int,vs=[.int i,.int j]∧(-(2 ^ 62)≤i∧i<2 ^ 62∧-(2 ^ 62)≤j∧j<2 ^ 62)∧R (Itr i (j - i).toNat) H1
theorem pi_range1 {a:Expr} {ta:TA} {p pos:Pos} (hg:Gl X "range") (hm:X.mg "range" = none) (ha:PA X [a] ta) (hs:starEach [a] X.env=[(false,eval a X.env)]:=by rfl):PI X tg (.Call (.Name "range" p) [a] [] pos) (iRng1 ta):=by
  intro pins s σ H R I h
  refine Call_ (ld_blt I hg hm boot_range (PyProof.Rows.callWith_type1 (thn (ha pos pins s σ H _ I h) fun us s1 ⟨vs,H1,I1,r1,q1⟩=>?_) hs rfl))
  obtain ⟨j,e,q1,q2,q⟩:=q1
  subst e
  cases r1 with
  | cons r rr =>
    cases rr
    obtain ⟨t,rfl⟩:=r
    exact call_range_1 (range_it I1 (by omega) (by omega) q1 q2 (by simpa using q))
theorem pi_range2 {a b:Expr} {ta:TA} {p pos:Pos} (hg:Gl X "range") (hm:X.mg "range" = none) (ha:PA X [a,b] ta) (hs:starEach [a,b] X.env=[(false,eval a X.env),(false,eval b X.env)]:=by rfl) (hs2:starEach [b] X.env=[(false,eval b X.env)]:=by rfl) :
    PI X tg (.Call (.Name "range" p) [a,b] [] pos) (iRng2 ta):=by
  intro pins s σ H R I h
  refine Call_ (ld_blt I hg hm boot_range (PyProof.Rows.callWith_type1 (thn (ha pos pins s σ H _ I h) fun us s1 ⟨vs,H1,I1,r1,q1⟩=>?_) (by rw [hs,hs2]) (by rw [hs2];rfl)))
  obtain ⟨i,j,e,⟨q1,q2,q3,q4⟩,q⟩:=q1
  subst e
  cases r1 with
  | cons r rr =>
    cases rr with
    | cons r' rr =>
      cases rr
      obtain ⟨t,rfl⟩:=r
      obtain ⟨t',rfl⟩:=r'
      exact call_range_2 (range_it I1 q1 q2 q3 q4 q)
def tFor (wi:TI) (g:TG) (tb:TS):TS:=fun D σ H=>wi σ H fun J H1=>∃ W:Nat→Nat→St→Hp→Prop,(∃ m,W 0 m σ H1)∧∀ i m σ H,W i m σ H →
  (J.stop i H∧D.nx σ H)∨(J.go i H∧∃ N:St→Hp→Prop,(∀ σ' H',N σ' H'→∃ m',m'<m∧W (i+1) m' σ' H')∧∀ x H',J.yld i H x H'→g x σ H' fun σ2 H2=>tb { D with nx:=N,ct:=N,bk:=D.nx } σ2 H2)
def pinsAt (fp:List Addr) (h:Heap):List (Addr × Obj):=fp.filterMap fun b=>(h.get? b).map fun o=>(b,o)
theorem mem_pinsAt {fp:List Addr} {h:Heap} {b:Addr} {o:Obj} (hb:b∈fp) (e:h.get? b=some o):(b,o)∈pinsAt fp h:=List.mem_filterMap.mpr ⟨b,hb,by rw [e];rfl⟩
theorem of_pinsAt {fp:List Addr} {h:Heap} {p:Addr × Obj} (hp:p∈pinsAt fp h):p.1∈fp∧h.get? p.1=some p.2:=by
  obtain ⟨b,hb,e⟩:=List.mem_filterMap.mp hp
  cases q:h.get? b with
  | none=>rw [q] at e;cases e
  | some o =>
    rw [q] at e
    have e' : (b,o)=p:=Option.some.inj e
    subst e'
    exact ⟨hb,q⟩
theorem Inv.pinned {pins:List (Addr × Obj)} {σ:St} {H:Hp} {s:Shared} {fp:List Addr} (I:Inv X pins σ H s) (hf:∀ b∈fp,FpOk X pins H b) (ho:∀ b∈fp,∃ o,s.heap.get? b=some o∧∀ v,o.data≠.cell v):Inv X (pins++pinsAt fp s.heap) σ H s :=
  I.pins_of fun p hp=>(List.mem_append.mp hp).elim (fun z=>I.pin p (List.mem_append_right _ z)) fun z=>by
    obtain ⟨hb,e⟩:=of_pinsAt z
    obtain ⟨f0,f1,f2,_⟩:=hf p.1 hb
    obtain ⟨o,e',d⟩:=ho p.1 hb
    rw [e] at e';cases e'
    exact ⟨e,f0,f1,f2,d⟩
theorem Inv.unpinned {pins pl:List (Addr × Obj)} {σ:St} {H:Hp} {s:Shared} (I:Inv X (pins++pl) σ H s):Inv X pins σ H s:=I.pins_of fun p hp=>I.pin p (List.mem_append_right _ (List.mem_append_left _ hp))
theorem ps_for {iter:Expr} {body:List Stmt} {wi:TI} {g:TG} {tb:TS} {pos:Pos} (hp:PassesOwn (model X.prog X.w) X.A X.env X.xe) (hc:X.calm=true) (hi:PI X tg iter wi) (hg:PG X tg g) (hb:PSs X body tb)
    (hs:∀ x,foldedSetIterable iter X.env x=pure x:=by intro _;rfl):PS X (.For tg iter body [] pos) (tFor wi g tb):=by
  intro pins s σ H D I h
  refine wpAny_For (thn (hi pins s σ H _ I h) fun v s1 h1=>thn h1 fun itv s2 h2=>?_) hs
  obtain ⟨it,fp,tn,J,H2,e,I2,T,st2,f2,W,⟨m0,w0⟩,turn⟩:=h2
  subst e
  have stat:∀ {H' : Hp},(∀ b∈fp,H' b=none)→∀ b∈fp,FpOk X pins H' b:=fun hn b hb=>⟨hn b hb,(f2 b hb).2⟩
  refine codeAny_forLoop_any (fun n s'=>∃ i σ' H',Inv X pins σ' H' s'∧tn i s'.heap∧(∀ b∈fp,H' b=none)∧W i n σ' H') ?_ m0 ⟨0,σ,H2,I2,st2,fun b hb=>(f2 b hb).1,w0⟩
  rintro n s3 ⟨i,σ3,H3,I3,st3,fr3,w3⟩
  rcases turn i n σ3 H3 w3 with ⟨stop,qn⟩ | ⟨go,N,hN,step⟩
  · refine wpAny_passesOwn hp (thn (T.done X rfl rfl rfl hc i pins s3 σ3 H3 X.xe I3 (stat fr3) st3 stop) fun r s4 ⟨hr,I4⟩=>?_)
    subst hr
    exact wpAny_execs_nil ⟨σ3,H3,I4,qn⟩
  · refine wpAny_passesOwn hp (thn (T.item X rfl rfl rfl hc i pins s3 σ3 H3 X.xe I3 (stat fr3) st3 go) fun r s4 ⟨u,hr,h4⟩=>?_)
    subst hr
    refine wpAny_passesOwn hp (thn h4 fun _ s5 ⟨x,H5,I5,r5,y5,st5,fr5⟩=>?_)
    have I5':=I5.pinned (stat fr5) (T.obj _ _ st5)
    refine wpAny_passesOwn hp (thn (hg _ s5 σ3 H5 x u _ I5' r5 (step x H5 y5)) fun _ s6 ⟨σ6,H6,I6,q6⟩=>?_)
    refine wpAny_passesOwn hp (thn (hb _ s6 σ6 H6 _ I6 q6) fun f s7 q7=>?_)
    have again:∀ {σ7:St} {H7:Hp},Inv X (pins++pinsAt fp s5.heap) σ7 H7 s7→N σ7 H7→∃ m,m<n∧∃ i σ' H',Inv X pins σ' H' s7∧tn i s7.heap∧(∀ b∈fp,H' b=none)∧W i m σ' H':=fun {σ7 H7} I7 n7=>by
      obtain ⟨m',hm,w7⟩:=hN σ7 H7 n7
      refine ⟨m',hm,i+1,σ7,H7,I7.unpinned,T.keep _ _ _ st5 fun b hb o e=>(I7.pin (b,o) (List.mem_append_right _ (List.mem_append_right _ (mem_pinsAt hb e)))).1,fun b hb=>?_,w7⟩
      obtain ⟨o,e,d⟩:=T.obj _ _ st5 b hb
      exact (I7.pin (b,o) (List.mem_append_right _ (List.mem_append_right _ (mem_pinsAt hb e)))).2.1
    cases f with
    | next=>obtain ⟨σ7,H7,I7,n7⟩:=q7;exact again I7 n7
    | cont=>obtain ⟨σ7,H7,I7,n7⟩:=q7;exact again I7 n7
    | brk=>obtain ⟨σ7,H7,I7,q7⟩:=q7;exact ⟨σ7,H7,I7.unpinned,q7⟩
    | ret v=>obtain ⟨x7,σ7,H7,I7,r7,q7⟩:=q7;exact ⟨x7,σ7,H7,I7.unpinned,r7,q7⟩
end
theorem for_list {K:PySem.W.Frag} {a:Addr} {xs:List V} {g:TG} {tb:TS} {D:Ends} {σ:St} {H:Hp} (Pv:Nat→St→Hp→Prop) (h0:Pv 0 σ H) (hl:∀ i σ H,i≤xs.length→Pv i σ H→SqL K H a xs)
    (hs:∀ i x σ H,xs[i]?=some x→Pv i σ H→g x σ H fun σ2 H2=>tb { D with nx:=Pv (i+1),ct:=Pv (i+1),bk:=D.nx } σ2 H2) (hd:∀ σ H,Pv xs.length σ H→D.nx σ H) :
    ∃ W:Nat→Nat→St→Hp→Prop,(∃ m,W 0 m σ H)∧∀ i m σ H,W i m σ H →
      ((Itl K a).stop i H∧D.nx σ H)∨((Itl K a).go i H∧∃ N:St→Hp→Prop,(∀ σ' H',N σ' H'→∃ m',m'<m∧W (i+1) m' σ' H')∧∀ x H',(Itl K a).yld i H x H'→g x σ H' fun σ2 H2=>tb { D with nx:=N,ct:=N,bk:=D.nx } σ2 H2):=by
  refine ⟨fun i m σ H=>m=xs.length - i∧i≤xs.length∧Pv i σ H,⟨xs.length,by simp,Nat.zero_le _,h0⟩,?_⟩
  rintro i m σ H ⟨rfl,hi,p⟩
  have q:=hl i σ H hi p
  by_cases hlt:i<xs.length
  · refine .inr ⟨⟨xs,xs[i],q,by simp [hlt]⟩,Pv (i+1),fun σ' H' p'=>⟨xs.length - (i+1),by omega,rfl,hlt,p'⟩,fun x H' y=>?_⟩
    obtain ⟨e,y⟩:=y
    subst e
    exact hs i x σ _ (y xs q) p
  · have e:i=xs.length:=by omega
    subst e
    exact .inl ⟨⟨xs,q,Nat.le_refl _⟩,hd σ H p⟩
theorem for_tup {K:PySem.W.Frag} {a:Addr} {xs:List V} {g:TG} {tb:TS} {D:Ends} {σ:St} {H:Hp} (Pv:Nat→St→Hp→Prop) (h0:Pv 0 σ H) (hl:∀ i σ H,i≤xs.length→Pv i σ H→SqT K H a xs)
    (hs:∀ i x σ H,xs[i]?=some x→Pv i σ H→g x σ H fun σ2 H2=>tb { D with nx:=Pv (i+1),ct:=Pv (i+1),bk:=D.nx } σ2 H2) (hd:∀ σ H,Pv xs.length σ H→D.nx σ H) :
    ∃ W:Nat→Nat→St→Hp→Prop,(∃ m,W 0 m σ H)∧∀ i m σ H,W i m σ H →
      ((Itt K a).stop i H∧D.nx σ H)∨((Itt K a).go i H∧∃ N:St→Hp→Prop,(∀ σ' H',N σ' H'→∃ m',m'<m∧W (i+1) m' σ' H')∧∀ x H',(Itt K a).yld i H x H'→g x σ H' fun σ2 H2=>tb { D with nx:=N,ct:=N,bk:=D.nx } σ2 H2):=by
  refine ⟨fun i m σ H=>m=xs.length - i∧i≤xs.length∧Pv i σ H,⟨xs.length,by simp,Nat.zero_le _,h0⟩,?_⟩
  rintro i m σ H ⟨rfl,hi,p⟩
  have q:=hl i σ H hi p
  by_cases hlt:i<xs.length
  · refine .inr ⟨⟨xs,xs[i],q,by simp [hlt]⟩,Pv (i+1),fun σ' H' p'=>⟨xs.length - (i+1),by omega,rfl,hlt,p'⟩,fun x H' y=>?_⟩
    obtain ⟨e,y⟩:=y
    subst e
    exact hs i x σ _ (y xs q) p
  · have e:i=xs.length:=by omega
    subst e
    exact .inl ⟨⟨xs,q,Nat.le_refl _⟩,hd σ H p⟩
theorem for_range {lo:Int} {n:Nat} {g:TG} {tb:TS} {D:Ends} {σ:St} {H:Hp} (Pv:Nat→St→Hp→Prop) (h0:Pv 0 σ H)
    (hs:∀ i σ H,i<n→Pv i σ H→g (.int (lo+i)) σ H fun σ2 H2=>tb { D with nx:=Pv (i+1),ct:=Pv (i+1),bk:=D.nx } σ2 H2) (hd:∀ σ H,Pv n σ H→D.nx σ H) :
    ∃ W:Nat→Nat→St→Hp→Prop,(∃ m,W 0 m σ H)∧∀ i m σ H,W i m σ H →
      ((Itr lo n).stop i H∧D.nx σ H)∨((Itr lo n).go i H∧∃ N:St→Hp→Prop,(∀ σ' H',N σ' H'→∃ m',m'<m∧W (i+1) m' σ' H')∧∀ x H',(Itr lo n).yld i H x H'→g x σ H' fun σ2 H2=>tb { D with nx:=N,ct:=N,bk:=D.nx } σ2 H2):=by
  refine ⟨fun i m σ H=>m=n - i∧i≤n∧Pv i σ H,⟨n,by simp,Nat.zero_le _,h0⟩,?_⟩
  rintro i m σ H ⟨rfl,hi,p⟩
  by_cases hlt:i<n
  · refine .inr ⟨hlt,Pv (i+1),fun σ' H' p'=>⟨n - (i+1),by omega,rfl,hlt,p'⟩,fun x H' y=>?_⟩
    obtain ⟨e,y⟩:=y
    subst e y
    exact hs i σ _ hlt p
  · have e:i=n:=by omega
    subst e
    exact .inl ⟨Nat.le_refl _,hd σ H p⟩
end L2
namespace L2
open PySem PySem.Spec PyProof.Rows
abbrev R2:=V→V→Hp→VK→Prop
def OpR (X:Cx) (f:Value→Value→Sem Value) (r:R2):Prop :=
  ∀ (pins:List (Addr × Obj)) (s:Shared) (σ:St) (H:Hp) (x y:V) (v u:Value) (Q:VK),Inv X pins σ H s→RelV x v→RelV y u→r x y H Q →
    wpAny (model X.prog X.w) X.A (f v u) (EP X pins σ Q) X.xe s
def CallR (X:Cx) (f:Value) (r:List V→Hp→VK→Prop):Prop :=
  ∀ (pins:List (Addr × Obj)) (s:Shared) (σ:St) (H:Hp) (xs:List V) (us:List Value) (Q:VK),Inv X pins σ H s→Vals xs us→r xs H Q →
    wpAny (model X.prog X.w) X.A (call f us) (EP X pins σ Q) X.xe s
def tOp (r:R2) (ta tb:TE):TE:=fun σ H Q=>ta σ H fun x H1=>tb σ H1 fun y H2=>r x y H2 Q
def rI (C:Int→Int→Prop) (g:Int→Int→V):R2:=fun x y H Q=>∃ i j,x=.int i∧y=.int j∧C i j∧Q (g i j) H
def rI0 (g:Int→Int→V):R2:=fun x y H Q=>∃ i j,x=.int i∧y=.int j∧Q (g i j) H
section
variable {X:Cx} {a b c:Expr} {ta tb tc:TE} {pos:Pos}
theorem binT (ha:PE X a ta) (hb:PE X b tb) {pins:List (Addr × Obj)} {s:Shared} {σ:St} {H:Hp} {R:V→V→Hp→Prop} (I:Inv X pins σ H s)
    (h:ta σ H fun x H1=>tb σ H1 fun y H2=>R x y H2) {Q:Value→Shared→Prop} {f:Value→Value→Sem Value}
    (hf:∀ v u s2 x y H2,Inv X pins σ H2 s2→RelV x v→RelV y u→R x y H2→wpAny (model X.prog X.w) X.A (f v u) Q X.xe s2) :
    wpAny (model X.prog X.w) X.A (eval a X.env) (fun v s₁=>wpAny (model X.prog X.w) X.A (eval b X.env) (fun u s₂=>wpAny (model X.prog X.w) X.A (f v u) Q X.xe s₂) X.xe s₁) X.xe s:=by
  refine thn (ha pins s σ H _ I h) fun v s1 ⟨x,H1,I1,r1,q1⟩=>?_
  refine thn (hb pins s1 σ H1 _ I1 q1) fun u s2 ⟨y,H2,I2,r2,q2⟩=>?_
  exact hf v u s2 x y H2 I2 r1 r2 q2
theorem pe_op {op:Operator} {r:R2} (ho:OpR X (binaryOp op) r) (ha:PE X a ta) (hb:PE X b tb):PE X (.BinOp a op b pos) (tOp r ta tb):=by
  intro pins s σ H Q I h
  exact wpAny_BinOp (binT ha hb I h fun v u s2 x y H2 I2 rx ry q=>ho pins s2 σ H2 x y v u Q I2 rx ry q)
theorem opI {f:Value→Value→Sem Value} {C:Int→Int→Prop} {g:Int→Int→Int}
    (rule:∀ (i j:Int) (t u:Tok) (s:Shared) (Q:Value→Shared→Prop) (E:Value→Shared→Prop),C i j→Q (.int (g i j) s.toks) { s with toks:=s.toks+1 }→wpAny (model X.prog X.w) X.A (f (.int i t) (.int j u)) Q E s) :
    OpR X f (rI C fun i j=>.int (g i j)):=by
  intro pins s σ H x y v u Q I rx ry h
  obtain ⟨i,j,rfl,rfl,hc,q⟩:=h
  obtain ⟨t,rfl⟩:=rx
  obtain ⟨t',rfl⟩:=ry
  exact rule i j t t' s _ _ hc ⟨.int (g i j),H,I.tok _,⟨_,rfl⟩,q⟩
theorem opI0 {f:Value→Value→Sem Value} {g:Int→Int→Int}
    (rule:∀ (i j:Int) (t u:Tok) (s:Shared) (Q:Value→Shared→Prop) (E:Value→Shared→Prop),Q (.int (g i j) s.toks) { s with toks:=s.toks+1 }→wpAny (model X.prog X.w) X.A (f (.int i t) (.int j u)) Q E s) :
    OpR X f (rI0 fun i j=>.int (g i j)):=by
  intro pins s σ H x y v u Q I rx ry h
  obtain ⟨i,j,rfl,rfl,q⟩:=h
  obtain ⟨t,rfl⟩:=rx
  obtain ⟨t',rfl⟩:=ry
  exact rule i j t t' s _ _ ⟨.int (g i j),H,I.tok _,⟨_,rfl⟩,q⟩
theorem opB0 {f:Value→Value→Sem Value} {g:Int→Int→Bool}
    (rule:∀ (i j:Int) (t u:Tok) (s:Shared) (Q:Value→Shared→Prop) (E:Value→Shared→Prop),Q (.bool (g i j)) s→wpAny (model X.prog X.w) X.A (f (.int i t) (.int j u)) Q E s) :
    OpR X f (rI0 fun i j=>.bl (g i j)):=by
  intro pins s σ H x y v u Q I rx ry h
  obtain ⟨i,j,rfl,rfl,q⟩:=h
  obtain ⟨t,rfl⟩:=rx
  obtain ⟨t',rfl⟩:=ry
  exact rule i j t t' s _ _ ⟨.bl (g i j),H,I,rfl,q⟩
def CDiv (i j:Int):Prop:=0<j∧j<1073741824
def CMul (i j:Int):Prop:=(-(2 ^ 64)<i∧i<2 ^ 64)∨(-(2 ^ 64)<j∧j<2 ^ 64)
theorem CMul.ok {i j:Int} (h:CMul i j):IntMulOk i j:=by
  rcases h with ⟨h1,h2⟩ | ⟨h1,h2⟩
  · exact .of_left (intBits_le_64 h1 h2)
  · exact .of_right (intBits_le_64 h1 h2)
theorem op_add:OpR X (binaryOp .Add) (rI0 fun i j=>.int (i+j)):=opI0 fun _ _ _ _ _ _ _ q=>add_int q
theorem op_sub:OpR X (binaryOp .Sub) (rI0 fun i j=>.int (i - j)):=opI0 fun _ _ _ _ _ _ _ q=>sub_int q
theorem op_mul:OpR X (binaryOp .Mult) (rI CMul fun i j=>.int (i*j)):=opI fun _ _ _ _ _ _ _ hc q=>mul_int q hc.ok
theorem op_fdiv:OpR X (binaryOp .FloorDiv) (rI CDiv fun i j=>.int (i / j)):=opI fun i j _ _ _ _ _ hc q=>by
  have h1:(0:Int)<j:=hc.1
  have h2:j<1073741824:=hc.2
  exact floordiv_int (by omega) (by rw [Int.fdiv_eq_ediv_of_nonneg i (by omega)];exact q) (.inl (PyProof.noPylong_small (by omega)))
theorem op_mod:OpR X (binaryOp .Mod) (rI (fun _ j=>0<j) fun i j=>.int (i%j)):=opI fun i j _ _ _ _ _ hc q=>by
  have h1:(0:Int)<j:=hc
  exact mod_int' (by omega) (by rw [Int.fmod_eq_emod_of_nonneg i (by omega)];exact q)
end
def scal:V→V→Bool
  | .non,.non=>true | .non,.int _=>true | .int _,.non=>true | .non,.bl _=>true | .bl _,.non=>true | .non,.str _=>true | .str _,.non=>true
  | .int _,.int _=>true | .bl _,.bl _=>true | .str _,.str _=>true | .byt _,.byt _=>true
  | .int _,.str _=>true | .str _,.int _=>true | .bl _,.str _=>true | .str _,.bl _=>true
  | _,_=>false
def rEq:R2:=fun x y H Q=>scal x y=true∧Q (.bl (decide (x=y))) H
def rNe:R2:=fun x y H Q=>scal x y=true∧Q (.bl (!decide (x=y))) H
theorem dec_int {i j:Int}:decide (V.int i=V.int j)=(i == j):=by
  rw [Bool.eq_iff_iff]
  simp
theorem dec_bl {i j:Bool}:decide (V.bl i=V.bl j)=(i == j):=by
  rw [Bool.eq_iff_iff]
  simp
theorem dec_str {i j:Str}:decide (V.str i=V.str j)=(i == j):=by
  rw [Bool.eq_iff_iff]
  simp
theorem dec_byt {i j:Array UInt8}:decide (V.byt i=V.byt j)=(i.toList == j.toList):=by
  rw [Bool.eq_iff_iff]
  cases i
  cases j
  simp
section
variable {X:Cx} {a b c:Expr} {ta tb tc:TE} {pos:Pos}
theorem fin_bl {pins:List (Addr × Obj)} {σ:St} {H:Hp} {s:Shared} {Q:VK} {k k' : Bool} (I:Inv X pins σ H s) (q:Q (.bl k) H) (e:k=k'):EP X pins σ Q (.bool k') s:=by
  subst e
  exact ⟨.bl k,H,I,rfl,q⟩
theorem op_eq:OpR X (compareOp .Eq) rEq:=by
  intro pins s σ H x y v u Q I rx ry h
  obtain ⟨hs,q⟩:=h
  cases x with
  | non =>
    cases rx
    cases y with
    | non=>cases ry;exact PySem.EqNone.eq_none_none (fin_bl I q (by simp))
    | bl j=>cases ry;exact PySem.EqNone.eq_none_bool (fin_bl I q (by simp))
    | int j=>obtain ⟨t',rfl⟩:=ry;exact PySem.EqNone.eq_none_int (fin_bl I q (by simp))
    | str j=>obtain ⟨t',rfl⟩:=ry;exact PySem.EqNone.eq_none_str (fin_bl I q (by simp))
    | _=>exact absurd (show false=true from hs) Bool.false_ne_true
  | bl i =>
    cases rx
    cases y with
    | non=>cases ry;exact PySem.EqNone.eq_bool_none (fin_bl I q (by simp))
    | bl j=>cases ry;exact eq_bool (fin_bl I q dec_bl)
    | str j=>obtain ⟨t',rfl⟩:=ry;exact PySem.EqMixed.eq_bool_str (fin_bl I q (by simp))
    | _=>exact absurd (show false=true from hs) Bool.false_ne_true
  | int i =>
    obtain ⟨t,rfl⟩:=rx
    cases y with
    | non=>cases ry;exact PySem.EqNone.eq_int_none (fin_bl I q (by simp))
    | int j=>obtain ⟨t',rfl⟩:=ry;exact eq_int (fin_bl I q dec_int)
    | str j=>obtain ⟨t',rfl⟩:=ry;exact PySem.EqMixed.eq_int_str (fin_bl I q (by simp))
    | _=>exact absurd (show false=true from hs) Bool.false_ne_true
  | str i =>
    obtain ⟨t,rfl⟩:=rx
    cases y with
    | non=>cases ry;exact PySem.EqNone.eq_str_none (fin_bl I q (by simp))
    | bl j=>cases ry;exact PySem.EqMixed.eq_str_bool (fin_bl I q (by simp))
    | int j=>obtain ⟨t',rfl⟩:=ry;exact PySem.EqMixed.eq_str_int (fin_bl I q (by simp))
    | str j=>obtain ⟨t',rfl⟩:=ry;exact eq_str (fin_bl I q dec_str)
    | _=>exact absurd (show false=true from hs) Bool.false_ne_true
  | byt i =>
    obtain ⟨t,rfl⟩:=rx
    cases y with
    | byt j=>obtain ⟨t',rfl⟩:=ry;exact PySem.W.eq_bytes (fin_bl I q dec_byt)
    | _=>exact absurd (show false=true from hs) Bool.false_ne_true
  | _=>cases y <;> exact absurd (show false=true from hs) Bool.false_ne_true
theorem op_ne:OpR X (compareOp .NotEq) rNe:=by
  intro pins s σ H x y v u Q I rx ry h
  obtain ⟨hs,q⟩:=h
  cases x with
  | non =>
    cases rx
    cases y with
    | non=>cases ry;exact PySem.EqNone.ne_none_none (fin_bl I q (by simp))
    | bl j=>cases ry;exact PySem.EqNone.ne_none_bool (fin_bl I q (by simp))
    | int j=>obtain ⟨t',rfl⟩:=ry;exact PySem.EqNone.ne_none_int (fin_bl I q (by simp))
    | str j=>obtain ⟨t',rfl⟩:=ry;exact PySem.EqNone.ne_none_str (fin_bl I q (by simp))
    | _=>exact absurd (show false=true from hs) Bool.false_ne_true
  | bl i =>
    cases rx
    cases y with
    | non=>cases ry;exact PySem.EqNone.ne_bool_none (fin_bl I q (by simp))
    | bl j=>cases ry;exact ne_bool (fin_bl I q (congrArg not dec_bl))
    | str j=>obtain ⟨t',rfl⟩:=ry;exact PySem.EqMixed.ne_bool_str (fin_bl I q (by simp))
    | _=>exact absurd (show false=true from hs) Bool.false_ne_true
  | int i =>
    obtain ⟨t,rfl⟩:=rx
    cases y with
    | non=>cases ry;exact PySem.EqNone.ne_int_none (fin_bl I q (by simp))
    | int j=>obtain ⟨t',rfl⟩:=ry;exact ne_int (fin_bl I q (congrArg not dec_int))
    | str j=>obtain ⟨t',rfl⟩:=ry;exact PySem.EqMixed.ne_int_str (fin_bl I q (by simp))
    | _=>exact absurd (show false=true from hs) Bool.false_ne_true
  | str i =>
    obtain ⟨t,rfl⟩:=rx
    cases y with
    | non=>cases ry;exact PySem.EqNone.ne_str_none (fin_bl I q (by simp))
    | bl j=>cases ry;exact PySem.EqMixed.ne_str_bool (fin_bl I q (by simp))
    | int j=>obtain ⟨t',rfl⟩:=ry;exact PySem.EqMixed.ne_str_int (fin_bl I q (by simp))
    | str j=>obtain ⟨t',rfl⟩:=ry;exact ne_str (fin_bl I q (congrArg not dec_str))
    | _=>exact absurd (show false=true from hs) Bool.false_ne_true
  | byt i =>
    obtain ⟨t,rfl⟩:=rx
    cases y with
    | byt j=>obtain ⟨t',rfl⟩:=ry;exact PySem.W.ne_bytes (fin_bl I q (congrArg not dec_byt))
    | _=>exact absurd (show false=true from hs) Bool.false_ne_true
  | _=>cases y <;> exact absurd (show false=true from hs) Bool.false_ne_true
theorem op_lt:OpR X (compareOp .Lt) (rI0 fun i j=>.bl (decide (i<j))):=opB0 fun _ _ _ _ _ _ _ q=>lt_int q
theorem op_le:OpR X (compareOp .LtE) (rI0 fun i j=>.bl (decide (i≤j))):=opB0 fun _ _ _ _ _ _ _ q=>le_int q
theorem op_gt:OpR X (compareOp .Gt) (rI0 fun i j=>.bl (decide (j<i))):=opB0 fun _ _ _ _ _ _ _ q=>gt_int q
theorem op_ge:OpR X (compareOp .GtE) (rI0 fun i j=>.bl (decide (j≤i))):=opB0 fun _ _ _ _ _ _ _ q=>ge_int q
theorem nomark (b:Expr) {op:CmpOp} (h:op≠.In:=by decide) (h2:op≠.NotIn:=by decide):behindInMarks op b=false:=by
  have e1:(op == CmpOp.In)=false:=by cases op <;> first | rfl | exact absurd rfl h
  have e2:(op == CmpOp.NotIn)=false:=by cases op <;> first | rfl | exact absurd rfl h2
  cases b <;> simp [behindInMarks,e1,e2]
theorem pe_cmpR {op:CmpOp} {r:R2} (ho:OpR X (compareOp op) r) (ha:PE X a ta) (hb:PE X b tb) (hm:behindInMarks op b=false):PE X (.Compare a [op] [b] pos) (tOp r ta tb):=by
  intro pins s σ H Q I h
  exact wpAny_Compare1 (binT ha hb I h fun v u s2 x y H2 I2 rx ry q=>ho pins s2 σ H2 x y v u Q I2 rx ry q) hm
def tTest (t:TE):TT:=fun σ H Q=>t σ H fun x H'=>∃ k,x=.bl k∧Q k H'
theorem pt_cmpR {op:CmpOp} {r:R2} (ho:OpR X (compareOp op) r) (ha:PE X a ta) (hb:PE X b tb) (hm:behindInMarks op b=false):PT X (.Compare a [op] [b] pos) (tTest (tOp r ta tb)):=by
  intro pins s σ H Q I h
  refine wpAny_isTrue_Compare1 (thn (ha pins s σ H _ I h) fun v s1 ⟨x,H1,I1,r1,q1⟩=>thn (hb pins s1 σ H1 _ I1 q1) fun u s2 ⟨y,H2,I2,r2,q2⟩ =>
    thn (ho pins s2 σ H2 x y v u _ I2 r1 r2 q2) fun c s3 ⟨z,H3,I3,r3,k,e,q3⟩=>?_) hm
  subst e
  cases r3
  exact wpAny_truthy_bool ⟨H3,I3,q3⟩
theorem line63:(sizeLine:Nat)<2 ^ 63:=by rw [sizeLine_eq];decide
theorem vals1 {x:V} {us:List Value} (r:Vals [x] us):∃ u,us=[u]∧RelV x u:=by
  cases r with
  | cons r1 r2=>cases r2;exact ⟨_,rfl,r1⟩
theorem vals2 {x y:V} {us:List Value} (r:Vals [x,y] us):∃ u w',us=[u,w']∧RelV x u∧RelV y w':=by
  cases r with
  | cons r1 r2 =>
    cases r2 with
    | cons r3 r4=>cases r4;exact ⟨_,_,rfl,r1,r3⟩
theorem call_max2 (hc:X.calm=true):CallR X (.builtin "max") (fun xs H Q=>∃ i j,xs=[.int i,.int j]∧Q (.int (if j>i then j else i)) H):=by
  intro pins s σ H xs us Q I r h
  obtain ⟨i,j,rfl,q⟩:=h
  obtain ⟨u,w',rfl,⟨t,rfl⟩,⟨t',rfl⟩⟩:=vals2 r
  refine max_two_ints (I.ok.hd hc) fun h' tk k=>⟨_,H,I.kept k,?_,q⟩
  by_cases hj:j>i
  · rw [if_pos hj,if_pos hj];exact ⟨_,rfl⟩
  · rw [if_neg hj,if_neg hj];exact ⟨_,rfl⟩
theorem call_min2 (hc:X.calm=true):CallR X (.builtin "min") (fun xs H Q=>∃ i j,xs=[.int i,.int j]∧Q (.int (if j<i then j else i)) H):=by
  intro pins s σ H xs us Q I r h
  obtain ⟨i,j,rfl,q⟩:=h
  obtain ⟨u,w',rfl,⟨t,rfl⟩,⟨t',rfl⟩⟩:=vals2 r
  refine min_two_ints (I.ok.hd hc) fun h' tk k=>⟨_,H,I.kept k,?_,q⟩
  by_cases hj:j<i
  · rw [if_pos hj,if_pos hj];exact ⟨_,rfl⟩
  · rw [if_neg hj,if_neg hj];exact ⟨_,rfl⟩
end
end L2
namespace L2
open PySem PySem.Spec PyProof.Rows
structure ObjM (h:Heap) (x dx C:Addr) (mA:Str→Option Value):Prop where
  obj:h.get? x=some (PySem.W.instObj C dx)
  ns:h.Ns1 dx mA
  ne:dx≠x
theorem lookIn_ns {h:Heap} {dx:Addr} {mA:Str→Option Value} (n:h.Ns1 dx mA):∃ od,h.get? dx=some od∧∀ name,PySem.W.lookIn name od=some (mA name):=by
  obtain ⟨o,es,ep,ho,hd,hk,_,hm⟩:=n
  refine ⟨o,ho,fun name=>?_⟩
  have e:=hm name
  unfold nsFind findBy at e
  rw [← Array.find?_toList] at e
  unfold PySem.W.lookIn
  rw [hd]
  dsimp only
  split
  · rename_i y q
    rw [q] at e
    exact congrArg some e
  · rename_i q
    rw [q] at e
    have a:es.toList.any (·.refKey)=false:=by
      rw [List.any_eq_false]
      intro y hy
      obtain ⟨z,t,hkey⟩:=hk y (Array.mem_toList_iff.mp hy)
      simp [DictEntry.refKey,hkey]
    have a' : ¬ es.toList.any (·.refKey)=true:=by rw [a];exact Bool.false_ne_true
    rw [if_neg a']
    exact congrArg some e
theorem ObjM.look {h:Heap} {x dx C:Addr} {mA:Str→Option Value} (I:ObjM h x dx C mA):∃ od,PySem.W.InstAt h x (PySem.W.instObj C dx) C (some od)∧∀ name,PySem.W.lookIn name od=some (mA name) :=
  let ⟨od,ho,hl⟩:=lookIn_ns I.ns
  ⟨od,⟨I.obj,rfl,rfl,ho⟩,hl⟩
section
variable {prog:Program} {w:World} {A:Around} {E:Value→Shared→Prop} {s:Shared} {K:PySem.W.Frag} {x dx C f:Addr} {mA:Str→Option Value} {name:Str} {v:Value}
theorem get_map {expr:Bool} {Q:Value→Shared→Prop} (X:K.In s.heap) (I:ObjM s.heap x dx C mA) (hg:PySem.W.plainGet K C name=true) (hh:PySem.W.hasDictIn K C=true)
    (ha:PySem.W.findIn K (.ref C) name=some none) (hv:mA name=some v) (hv' : PySem.W.handedIn v=true) (h:Q v { s with toks:=s.toks+1 }) :
    wpAny (model prog w) A (getAttr (.ref x) name expr) Q E s:=by
  obtain ⟨od,J,hl⟩:=I.look
  exact PySem.W.get_value X J (PySem.W.plainGet_of hg).1 (PySem.W.findObj_own hh ha rfl (by rw [hl,hv])) hv' h
theorem set_map {ns:List Str} {Q:Unit→Shared→Prop} (X:K.In s.heap) (I:ObjM s.heap x dx C mA)
    (hs:PySem.W.findIn K (.ref C) "__setattr__" = some (some (.builtin "object.__setattr__"))) (hp:PySem.W.plainOver K C=true) (ht:PySem.W.takerIn K C name=some none) (hh:PySem.W.hasDictIn K C=true)
    (hw:PySem.Within mA ns) (hsz:ns.length≤sizeLine)
    (h:∀ h',ObjM h' x dx C (fun y=>if y=name then some v else mA y)→Heap.SameBut dx s.heap h'→Q () { s with heap:=h',toks:=s.toks+2 }) :
    wpAny (model prog w) A (setAttr (.ref x) name v) Q E s:=by
  obtain ⟨od,J,hl⟩:=I.look
  refine PySem.W.set_plain X J hs (PySem.W.osa_open (s:={ s with toks:=s.toks+1 }) (r:=none) X J hp ht fun b=>?_)
  obtain ⟨cd,hc,hd'⟩:=PySem.W.any_some hh
  have hx:s.heap.get? x=some ⟨.ref C,some dx,.plain,#[]⟩:=I.obj
  refine wpAny_bind (wpAny_pure (wpAny_bind (wpAny_bind (wpAny_loadPart hx (wpAny_bind (PySem.W.Looks.here (s:={ s with toks:=s.toks+1 }) (PySem.W.looks_clsIn X hc) ?_))))))
  rw [hd']
  refine wpAny_pure (a:=some dx) (wpAny_bind (wpAny_pure (wpAny_bind ?_)))
  refine wpAny_nsSet1 (s:={ s with toks:=s.toks+1 }) I.ns fun h' hn2 hs2=>?_
  obtain ⟨oD,esD,epD,hoD,hdD,hcD⟩:=hn2.count (PySem.Within.cons name v hw)
  refine wpAny_bind (wpAny_lookBehind hoD (by rw [hdD];exact pastItsLine_dict (Nat.le_trans hcD (by rw [List.length_cons];omega))) ?_)
  exact wpAny_pure (h _ ⟨(hs2.2 _ (Ne.symm I.ne)).trans I.obj,hn2,I.ne⟩ hs2)
theorem make_map {R:Result→Shared→Prop} {vs:List Value} {kw:List (Str × Value)} (X:K.In s.heap) (hm:PySem.W.makesIn K C=true)
    (hi:PySem.W.findIn K (.ref C) "__init__" = some (some (.ref f))) (hf:PySem.W.typeIn K (.ref f)=some (.type "function"))
    (h:codeAny (model prog w) (A.under (.builtin "type.__call__" ⟨.ref C::vs,kw⟩)) (.call (.ref f) ⟨.ref (s.heap.objs.size+1)::vs,kw⟩) (PySem.W.InitBack (s.heap.objs.size+1) R)
      { s with heap:=(s.heap.push PySem.W.emptyDict).push (PySem.W.instObj C s.heap.objs.size) }) :
    codeAny (model prog w) A (.call (.ref C) ⟨vs,kw⟩) R s:=by
  obtain ⟨hh,g,d,t,os⟩:=s
  exact PySem.W.make_core (PySem.W.makes_of X hm) (PySem.W.looks_findIn X hi) (fun self=>PySem.W.bind_fn X self hf) (.inl rfl) h
end
def putF (f:Str) (v:V):List (Str × V)→List (Str × V)
  | []=>[(f,v)]
  | (g,x)::r=>if g=f then (g,v)::r else (g,x)::putF f v r
theorem lookup_putF (f g:Str) (v:V):∀ fs:List (Str × V),(putF f v fs).lookup g=if g=f then some v else fs.lookup g
  | []=>by
    show List.lookup g [(f,v)]=_
    by_cases h:g=f
    · have hb:(g == f)=true:=beq_iff_eq.mpr h
      simp only [List.lookup,hb,if_pos h]
    · have hb:(g == f)=false:=beq_eq_false_iff_ne.mpr h
      simp only [List.lookup,hb,if_neg h]
  | (k,x)::r=>by
    have ih:=lookup_putF f g v r
    rw [show putF f v ((k,x)::r)=(if k=f then (k,v)::r else (k,x)::putF f v r) from rfl]
    by_cases hk:k=f
    · rw [if_pos hk]
      by_cases h:g=k
      · have hb:(g == k)=true:=beq_iff_eq.mpr h
        simp only [List.lookup,hb,if_pos (h.trans hk)]
      · have hb:(g == k)=false:=beq_eq_false_iff_ne.mpr h
        simp only [List.lookup,hb,if_neg (fun e:g=f=>h (e.trans hk.symm))]
    · rw [if_neg hk]
      by_cases h:g=k
      · have hb:(g == k)=true:=beq_iff_eq.mpr h
        simp only [List.lookup,hb,if_neg (fun e:g=f=>hk (h.symm.trans e))]
      · have hb:(g == k)=false:=beq_eq_false_iff_ne.mpr h
        simp only [List.lookup,hb]
        exact ih
theorem keys_putF (f:Str) (v:V):∀ fs:List (Str × V),f∈(putF f v fs).map (·.1)∧∀ g,g∈fs.map (·.1)→g∈(putF f v fs).map (·.1)
  | []=>⟨by simp [putF],fun g h=>by simp at h⟩
  | (k,x)::r=>by
    obtain ⟨i1,i2⟩:=keys_putF f v r
    rw [show putF f v ((k,x)::r)=(if k=f then (k,v)::r else (k,x)::putF f v r) from rfl]
    by_cases hk:k=f
    · rw [if_pos hk]
      subst hk
      exact ⟨by simp,fun g h=>by simpa using h⟩
    · rw [if_neg hk]
      refine ⟨?_,fun g h=>?_⟩
      · rw [List.map_cons]
        exact List.mem_cons_of_mem _ i1
      · rw [List.map_cons] at h ⊢
        rcases List.mem_cons.mp h with e | e
        · exact List.mem_cons.mpr (.inl e)
        · exact List.mem_cons_of_mem _ (i2 g e)
theorem length_putF (f:Str) (v:V):∀ fs:List (Str × V),(putF f v fs).length≤fs.length+1
  | []=>by simp [putF]
  | (k,x)::r=>by
    have ih:=length_putF f v r
    rw [show putF f v ((k,x)::r)=(if k=f then (k,v)::r else (k,x)::putF f v r) from rfl]
    by_cases hk:k=f
    · rw [if_pos hk,List.length_cons,List.length_cons];omega
    · rw [if_neg hk,List.length_cons,List.length_cons];omega
theorem RelO.some_of {v:V} {o:Option Value} (r:RelO (some v) o):∃ u,o=some u∧RelV v u:=by
  cases o with
  | none=>exact (show False from r).elim
  | some u=>exact ⟨u,rfl,r⟩
theorem handed_of {v:V} {u:Value} (r:RelV v u):PySem.W.handedIn u=true:=by
  cases v with
  | non=>cases (show u=Value.none from r);rfl
  | bl b=>cases (show u=Value.bool b from r);rfl
  | int i=>obtain ⟨t,e⟩:=(show ∃ t,u=Value.int i t from r);cases e;rfl
  | str x=>obtain ⟨t,e⟩:=(show ∃ t,u=Value.str x t from r);cases e;rfl
  | byt b=>obtain ⟨t,e⟩:=(show ∃ t,u=Value.bytes b t from r);cases e;rfl
  | flt b=>obtain ⟨t,e⟩:=(show ∃ t,u=Value.float b t from r);cases e;rfl
  | ref a=>cases (show u=Value.ref a from r);rfl
  | ty n=>cases (show u=Value.type n from r);rfl
section
variable {P:Program} {w:World} {H H' : Hp} {h h' : Heap} {a C dx:Addr} {fs fs' : List (Str × V)}
theorem ins_get (hok:HOk P w H h) (e:H a=some (.ins C dx fs)):∃ mA,ObjM h a dx C mA∧(∀ f,RelO (fs.lookup f) (mA f))∧PySem.Within mA (fs.map (·.1))∧fs.length≤1000∧H dx=some (.own a):=by
  obtain ⟨d,z,ne,ob,mA,n,r,q⟩:=(show ObjOk P w H h a (.ins C dx fs) from hok a _ e)
  exact ⟨mA,⟨ob,n,ne⟩,r,q,z,d⟩
end
structure Cls (K:PySem.W.Frag) (C:Addr):Prop where
  pg:PySem.W.plainGet K C Str.empty=true
  hd:PySem.W.hasDictIn K C=true
  po:PySem.W.plainOver K C=true
  sa:PySem.W.findIn K (.ref C) "__setattr__" = some (some (.builtin "object.__setattr__"))
theorem Cls.get {K:PySem.W.Frag} {C:Addr} (c:Cls K C) (f:Str):PySem.W.plainGet K C f=true:=c.pg
def NoAttr (K:PySem.W.Frag) (C:Addr) (f:Str):Prop:=PySem.W.findIn K (.ref C) f=some none
theorem NoAttr.taker {K:PySem.W.Frag} {C:Addr} {f:Str} (n:NoAttr K C f):PySem.W.takerIn K C f=some none:=by
  unfold PySem.W.takerIn
  rw [show PySem.W.findIn K (.ref C) f=some none from n]
  rfl
section
variable {X:Cx} {pins:List (Addr × Obj)} {σ:St} {H:Hp} {s:Shared} {a C dx:Addr} {fs:List (Str × V)} {f:Str} {v:V} {A:Around} {E:Value→Shared→Prop}
theorem getattr_ok {b:Bool} {Q:Value→Shared→Prop} (I:Inv X pins σ H s) (e:H a=some (.ins C dx fs)) (c:Cls X.K C) (n:NoAttr X.K C f) (l:fs.lookup f=some v)
    (h:∀ u s',Inv X pins σ H s'→RelV v u→Q u s'):wpAny (model X.prog X.w) A (getAttr (.ref a) f b) Q E s:=by
  obtain ⟨mA,O,r,_,_,_⟩:=ins_get I.hok e
  obtain ⟨u,hu,ru⟩:=RelO.some_of (v:=v) (o:=mA f) (by rw [← l];exact r f)
  exact get_map I.kIn O (c.get f) c.hd n hu (handed_of ru) (h u _ (I.tok _) ru)
theorem setattr_ok {y:V} {u:Value} {Q:Unit→Shared→Prop} (I:Inv X pins σ H s) (e:H a=some (.ins C dx fs)) (c:Cls X.K C) (n:NoAttr X.K C f) (hl:fs.length<1000) (ry:RelV y u)
    (h:∀ s',Inv X pins σ (upd H a (.ins C dx (putF f y fs))) s'→Q () s'):wpAny (model X.prog X.w) A (setAttr (.ref a) f u) Q E s:=by
  obtain ⟨mA,O,r,wi,_,ho⟩:=ins_get I.hok e
  have hz:(fs.map (·.1)).length≤sizeLine:=by rw [List.length_map,sizeLine_eq];omega
  refine set_map I.kIn O c.sa c.po n.taker c.hd wi hz fun h' O' sb=>h _ ?_
  have hd:∃ o,h'.get? dx=some o:=let ⟨o,_,_,e',_⟩:=O'.ns;⟨o,e'⟩
  refine I.write (x:=a) (e:=dx) (by rw [e];exact True.intro) (.inr ho) (fun b q hb z=>(sb.2 b hb).trans z) hd ?_
  refine ⟨by rw [upd_ne O.ne];exact ho,?_,O.ne,O'.obj,_,O'.ns,fun g=>?_,fun g hg=>?_⟩
  · have:=length_putF f y fs;omega
  · show RelO ((putF f y fs).lookup g) (if g=f then some u else mA g)
    rw [lookup_putF]
    by_cases q:g=f
    · rw [if_pos q,if_pos q];exact ry
    · rw [if_neg q,if_neg q];exact r g
  · by_cases q:g=f
    · rw [q];exact (keys_putF f y fs).1
    · refine (keys_putF f y fs).2 g (wi g fun z=>hg ?_)
      show (if g=f then some u else mA g)=none
      rw [if_neg q];exact z
theorem Inv.made (I:Inv X pins σ H s):Inv X pins σ (upd (upd H s.heap.objs.size (.own (s.heap.objs.size+1))) (s.heap.objs.size+1) (.ins C s.heap.objs.size []))
    { s with heap:=(s.heap.push PySem.W.emptyDict).push (PySem.W.instObj C s.heap.objs.size) }:=by
  have e1:(s.heap.push PySem.W.emptyDict).get? s.heap.objs.size=some PySem.W.emptyDict:=Heap.get?_push_size s.heap rfl
  have e2:((s.heap.push PySem.W.emptyDict).push (PySem.W.instObj C s.heap.objs.size)).get? (s.heap.objs.size+1)=some (PySem.W.instObj C s.heap.objs.size):=by
    have:=Heap.get?_push_size (s.heap.push PySem.W.emptyDict) (o:=PySem.W.instObj C s.heap.objs.size) rfl
    rwa [Heap.size_push] at this
  have e3:(s.heap.push PySem.W.emptyDict).Ns s.heap.objs.size (fun _=>none):=⟨PySem.W.emptyDict,#[],_,e1,rfl,(fun e he=>absurd he (by simp)),fun _=>rfl⟩
  have I1:=I.laid (a:=s.heap.objs.size) (o:=.own (s.heap.objs.size+1)) (h':=s.heap.push PySem.W.emptyDict) (t':=s.toks) (fun b u q=>Heap.get?_push_of_some _ q) (Nat.le_refl _) ⟨_,e1⟩
  refine I1.laid (a:=s.heap.objs.size+1) (o:=.ins C s.heap.objs.size []) (t':=s.toks) (fun b u q=>Heap.get?_push_of_some _ q) (Nat.le_of_eq (Heap.size_push _ _)) ?_
  have ne:s.heap.objs.size≠s.heap.objs.size+1:=Nat.ne_of_lt (Nat.lt_succ_self _)
  refine ⟨by rw [upd_ne ne,upd_same],Nat.zero_le _,ne,e2,fun _=>none,(Heap.Ns1.of_empty e3).at fun o q=>Heap.get?_push_of_some _ q,fun _=>True.intro,fun y hy=>absurd rfl hy⟩
theorem attr_of {prog:Program} {w:World} {env:Env} {e:Expr} {f:Str} {pos:Pos} {s:Shared} {Q:Value→Shared→Prop} (hb:attributeBase e f env (eval e env)=eval e env)
    (h:wpAny (model prog w) A (eval e env) (fun o s₁=>wpAny (model prog w) A (getAttr o f true) Q E s₁) E s):wpAny (model prog w) A (eval (.Attribute e f pos) env) Q E s :=
  Attribute_any_ h (by rw [arm_eval_Attribute,hb])
end
def tFld (K:PySem.W.Frag) (ta:TE) (f:Str):TE:=fun σ H Q=>ta σ H fun x H1=>∃ a C dx fs v,x=.ref a∧H1 a=some (.ins C dx fs)∧Cls K C∧NoAttr K C f∧fs.lookup f=some v∧Q v H1
def sFld (K:PySem.W.Frag) (ta tv:TE) (f:Str):TS:=fun D σ H=>tv σ H fun y H1=>ta σ H1 fun x H2=>∃ a C dx fs,x=.ref a∧H2 a=some (.ins C dx fs)∧Cls K C∧NoAttr K C f∧fs.length<1000 ∧
  D.nx σ (upd H2 a (.ins C dx (putF f y fs)))
section
variable {X:Cx} {o e value:Expr} {f:Str} {pos pos' tpos:Pos} {ta tv:TE}
theorem pe_fld (he:PE X e ta) (hb:attributeBase e f X.env (eval e X.env)=eval e X.env):PE X (.Attribute e f pos) (tFld X.K ta f):=by
  intro pins s σ H Q I h
  refine attr_of hb (thn (he pins s σ H _ I h) fun u s1 ⟨x,H1,I1,rx,a,C,dx,fs,v,ex,ea,c,n,l,q⟩=>?_)
  subst ex
  obtain rfl:u=Value.ref a:=rx
  exact getattr_ok I1 ea c n l fun u' s2 I2 ru=>⟨v,H1,I2,ru,q⟩
theorem ps_fld (ha:PE X o ta) (hv:PE X value tv) (hs:swapsWith value (some (.Attribute o f pos')) pos.line X.env=pure false):PS X (.Assign [.Attribute o f pos'] value pos) (sFld X.K ta tv f):=by
  intro pins s σ H D I h
  refine plainObj_wpAny_Assign_Attribute (thn (hv pins s σ H _ I h) fun u s1 ⟨y,H1,I1,ry,q⟩=>thn (ha pins s1 σ H1 _ I1 q) fun ov s2 ⟨x,H2,I2,rx,a,C,dx,fs,ex,ea,c,n,l,q2⟩=>?_) hs
  subst ex
  obtain rfl:ov=Value.ref a:=rx
  exact setattr_ok I2 ea c n l ry fun s3 I3=>⟨σ,_,I3,q2⟩
end
section
variable {X:Cx} {pins:List (Addr × Obj)} {σ:St} {H:Hp} {s:Shared} {A:Around} {E:Value→Shared→Prop} {Q:Value→Shared→Prop} {c:Value} {b:Bool}
end
end L2
namespace L2
open PySem PySem.Spec PyProof.Rows
structure Room (k:Nat) (A:Around):Prop where
  hd:A.handled=none
  dp:A.depth+3*k+5<recursionLimit
  un:A.units+16*k+200<cLine
theorem Room.mono {j k:Nat} {A:Around} (r:Room k A) (h:j≤k):Room j A:=⟨r.hd,by have:=r.dp;omega,by have:=r.un;omega⟩
theorem Room.deeper {k:Nat} {A:Around} (r:Room (k+1) A) (env:Env):Room k (A.deeper env) :=
  ⟨r.hd,by have:=r.dp;show A.depth+1+3*k+5<_;omega,by have:=r.un;show A.units+3+16*k+200<_;omega⟩
theorem make_depth {A:Around} {C:Addr} {us:List Value} {kw:List (Str × Value)}:(A.under (.builtin "type.__call__" ⟨.ref C::us,kw⟩)).depth=A.depth+1:=by
  first | rfl | simp [Around.under,Code.weight,Code.isCreation,Code.isGuard,Code.isCaller,Code.frames,Code.isFrame,guardIds]
theorem make_units {A:Around} {C:Addr} {us:List Value} {kw:List (Str × Value)}:(A.under (.builtin "type.__call__" ⟨.ref C::us,kw⟩)).units=A.units+1:=by
  first | rfl | simp [Around.under,Code.cUnits,Code.frames,Code.isFrame]
theorem Room.make {k:Nat} {A:Around} (r:Room (k+1) A) (C:Addr) (us:List Value) (kw:List (Str × Value)):Room k (A.under (.builtin "type.__call__" ⟨.ref C::us,kw⟩)) :=
  ⟨r.hd,by have:=r.dp;rw [make_depth];omega,by have:=r.un;rw [make_units];omega⟩
theorem Room.depth {k:Nat} {A:Around} (r:Room k A):A.depth<recursionLimit:=by have:=r.dp;omega
theorem Room.units {k:Nat} {A:Around} (r:Room k A):A.units+64<cLine:=by have:=r.un;omega
def tNil:TA:=fun _ H Q=>Q [] H
def tCons (ta:TE) (tr:TA):TA:=fun σ H Q=>ta σ H fun x H1=>tr σ H1 fun xs H2=>Q (x::xs) H2
section
variable {X:Cx} {e:Expr} {es:List Expr} {te:TE} {t:TA} {pos:Pos}
theorem pa_nil:PA X [] tNil:=fun _ _ _ _ H Q I h=>Calls.spliced_nil ⟨[],H,I,.nil,h⟩
theorem pa_cons (ha:PE X e te) (hr:PA X es t) (hs:starEach (e::es) X.env=(false,eval e X.env)::starEach es X.env:=by rfl):PA X (e::es) (tCons te t):=by
  intro pos pins s σ H Q I h
  rw [hs]
  show wpAny _ _ (spliced ((false,eval e X.env)::backTo pos (starEach es X.env))) _ _ s
  refine Calls.spliced_cons (thn (ha pins s σ H _ I h) fun u s1 ⟨x,H1,I1,r1,q1⟩=>?_)
  exact thn (hr pos pins s1 σ H1 _ I1 q1) fun us s2 ⟨xs,H2,I2,r2,q2⟩=>⟨x::xs,H2,I2,.cons r1 r2,q2⟩
def tTup (t:TA):TE:=fun σ H Q=>t σ H fun xs H1=>xs.length≤sizeLine∧∀ p,H1 p=none→Q (.ref p) (upd H1 p (.tup xs))
def tLst (t:TA):TE:=fun σ H Q=>t σ H fun xs H1=>xs.length≤sizeLine∧∀ p,H1 p=none→Q (.ref p) (upd H1 p (.lst xs))
theorem pe_tup {x1} (h:PA X es t):PE X (.Tuple es x1 pos) (tTup t):=by
  intro pins s σ H Q I hq
  refine wpAny_Tuple_spliced (thn (h pos pins s σ H _ I hq) fun us s1 ⟨xs,H1,I1,r,z,q⟩=>⟨by rw [← r.length];exact z,?_⟩)
  have hf:H1 s1.heap.objs.size=none:=I1.hok.fresh (Nat.le_refl _)
  refine ⟨.ref s1.heap.objs.size,upd H1 s1.heap.objs.size (.tup xs),I1.laid (t':=s1.toks) (fun b u e=>Heap.get?_push_of_some _ e) (Nat.le_refl _) ?_,rfl,q _ hf⟩
  exact ⟨z,us,r,⟨_,Heap.get?_push_size _ rfl,rfl,_,rfl⟩⟩
theorem pe_lst (h:PA X es t):PE X (.List es pos) (tLst t):=by
  intro pins s σ H Q I hq
  refine wpAny_List_spliced (thn (h pos pins s σ H _ I hq) fun us s1 ⟨xs,H1,I1,r,z,q⟩=>⟨by rw [← r.length];exact z,?_⟩)
  have hf:H1 s1.heap.objs.size=none:=I1.hok.fresh (Nat.le_refl _)
  refine ⟨.ref s1.heap.objs.size,upd H1 s1.heap.objs.size (.lst xs),I1.laid (t':=s1.toks) (fun b u e=>Heap.get?_push_of_some _ e) (Nat.le_refl _) ?_,rfl,q _ hf⟩
  exact ⟨z,us,0,r,Heap.get?_push_size _ rfl⟩
end
abbrev Sp:=List V→Hp→VK→XK→Prop
abbrev CXT:=List Env→Hp→Shared→XK→Value→Shared→Prop
structure Env0 (P:Program) (w:World) (K:PySem.W.Frag) (mg:Str→Option Value) (base:Heap) (A:Around) (outer:List Env) (s:Shared) (H:Hp):Prop where
  frames:A.frames=some outer
  mod:Mod K mg base
  bs:∀ b o,base.get? b=some o→s.heap.get? b=some o∧H b=none
  bsz:base.objs.size≤s.heap.objs.size
  funs:s.heap.FunFrames base outer
  frf:∀ b∈frs outer,H b=none
  hok:HOk P w H s.heap
  bare:AllBare s.gens
def CE (outer:List Env) (P:Program) (w:World) (H:Hp) (s:Shared) (Q:VK) (u:Value) (s' : Shared):Prop :=
  ∃ v H',s'.os=s.os∧AllBare s'.gens∧Un (frs outer) [] H H' s.heap s'.heap∧HOk P w H' s'.heap∧RelV v u∧Q v H'
def CR (CX:CXT) (outer:List Env) (P:Program) (w:World) (H:Hp) (s:Shared) (Q:VK) (E:XK) (r:Result) (s' : Shared):Prop :=
  match r with
  | .ok (.ret u)=>CE outer P w H s Q u s'
  | .ok _=>False
  | .error e=>CX outer H s E e s'
structure FnOk (P:Program) (w:World) (K:PySem.W.Frag) (mg:Str→Option Value) (base:Heap) (CX:CXT) (k:Nat) (f:Addr) (fd:FuncData) (ps:List Str) (sp:Sp):Prop where
  len:∀ vs H Q E,sp vs H Q E→vs.length=ps.length
  run:∀ (A:Around) (outer:List Env) (s:Shared) (H:Hp) (args:Args) (us:List Value) (vs:List V) (Q:VK) (E:XK),Room k A→Env0 P w K mg base A outer s H→BindsTo s fd args (ps.zip us)→Vals vs us→sp vs H Q E →
    codeAny (model P w) A (.call (.ref f) args) (CR CX outer P w H s Q E) s
theorem Env0.make {P:Program} {w:World} {K:PySem.W.Frag} {mg:Str→Option Value} {base:Heap} {A:Around} {outer:List Env} {s:Shared} {H:Hp} (e:Env0 P w K mg base A outer s H) (C:Addr) (us:List Value) (kw:List (Str × Value)) :
    Env0 P w K mg base (A.under (.builtin "type.__call__" ⟨.ref C::us,kw⟩)) outer s H:=⟨by first | exact e.frames | (simpa [Around.under,Code.envs,Code.isFrame,pushEnvs] using e.frames),e.mod,e.bs,e.bsz,e.funs,e.frf,e.hok,e.bare⟩
section
variable {X:Cx} {pins:List (Addr × Obj)} {σ:St} {H:Hp} {s s' : Shared}
theorem Inv.env0 (I:Inv X pins σ H s):Env0 X.prog X.w X.K X.mg X.base X.A X.stack s H :=
  ⟨I.ok.frames,I.ok.mod,I.bs,Nat.le_trans I.ok.bsz I.sz,I.stack,I.stkFree,I.hok,I.bare⟩
theorem Inv.after {Q:VK} {u:Value} (I:Inv X pins σ H s) (h:CE X.stack X.prog X.w H s Q u s'):EP X pins σ Q u s':=by
  obtain ⟨v,H',os,bare,un,hok,r,q⟩:=h
  obtain ⟨hh,g,d,t,os'⟩:=s'
  obtain rfl:os'=s.os:=os
  exact ⟨v,H',I.call (h':=hh) (g':=g) (d':=d) (t':=t) (ch:=[]) un hok bare (fun b z=>absurd z (by simp)),r,q⟩
end
def tCall (sp:Sp) (dvs:List V) (E:XK) (t:TA):TE:=fun σ H Q=>t σ H fun vs H1=>sp (vs++dvs) H1 Q E
def tMake (C:Addr) (sp:Sp) (dvs:List V) (E:XK) (t:TA):TE:=fun σ H Q=>t σ H fun vs H1=>∀ x dx,H1 x=none→H1 dx=none→dx≠x →
  sp (.ref x::(vs++dvs)) (upd (upd H1 dx (.own x)) x (.ins C dx [])) (fun v H2=>v=.non∧Q (.ref x) H2) E
def Binds (K:PySem.W.Frag) (fd:FuncData) (ps:List Str) (ds:List Value):Prop :=
  ∀ (s:Shared) (us:List Value),K.In s.heap→(us++ds).length=ps.length→BindsTo s fd ⟨us,[]⟩ (ps.zip (us++ds))
theorem Binds.all {K:PySem.W.Frag} {fd:FuncData} {ps:List Str} (h:∀ us:List Value,us.length=ps.length→bindArgs fd ⟨us,[]⟩=pure (ps.zip us)):Binds K fd ps []:=fun s us _ hl=>by
  rw [List.append_nil] at hl ⊢
  exact .of_eq (h us hl)
def Passes (CX:CXT) (X:Cx) (E:XK):Prop:=∀ (pins:List (Addr × Obj)) (σ:St) (H:Hp) (s:Shared) (e:Value) (s' : Shared),Inv X pins σ H s→CX X.stack H s E e s'→X.xe e s'
section
variable {X:Cx} {CX:CXT} {k:Nat} {f C:Addr} {fd:FuncData} {ps:List Str} {sp:Sp} {dvs:List V} {ds:List Value} {E:XK} {x m:Str} {p pos apos:Pos} {e o:Expr} {es:List Expr} {ta:TE} {t:TA}
theorem run_fn {pins:List (Addr × Obj)} {σ:St} {H:Hp} {s:Shared} {Q:VK} {us:List Value} {vs:List V} (F:FnOk X.prog X.w X.K X.mg X.base CX k f fd ps sp) (hr:Room k X.A) (hb:Binds X.K fd ps ds) (hd:Vals dvs ds) (hx:Passes CX X E)
    (I:Inv X pins σ H s) (r:Vals vs us) (h:sp (vs++dvs) H Q E):wpAny (model X.prog X.w) X.A (call (.ref f) us) (EP X pins σ Q) X.xe s:=by
  have r2:Vals (vs++dvs) (us++ds):=r.append hd
  have hl:(us++ds).length=ps.length:=by rw [← r2.length];exact F.len _ _ _ _ h
  refine wpAny_call (codeAny_mono (F.run X.A X.stack s H ⟨us,[]⟩ (us++ds) (vs++dvs) Q E hr I.env0 (hb s us I.kIn hl) r2 h) fun r s' hq=>?_)
  cases r with
  | error e=>exact hx pins σ H s e s' I hq
  | ok fl =>
    cases fl with
    | ret u=>exact I.after hq
    | next=>exact False.elim hq
    | brk=>exact False.elim hq
    | cont=>exact False.elim hq
theorem pe_call (F:FnOk X.prog X.w X.K X.mg X.base CX k f fd ps sp) (hr:Room k X.A) (hg:Gl X x) (hm:X.mg x=some (.ref f)) (hk:PySem.W.keepIn X.K (.ref f)=true) (hb:Binds X.K fd ps ds) (hd:Vals dvs ds) (hx:Passes CX X E)
    (ha:PA X (e::es) t) (hdb:(x == ("__debug__" : Str))=false:=by decide) (he:starEach (e::es) X.env=(false,eval e X.env)::starEach es X.env:=by rfl) (hpl:(backTo pos (starEach es X.env)).any (·.1)=false:=by rfl) :
    PE X (.Call (.Name x p) (e::es) [] pos) (tCall sp dvs E t):=by
  intro pins s σ H Q I h
  refine wpAny_Call_Name_kw (ld_glob I hg hm ?_ hdb)
  refine PySem.W.callWith_K (h₀:=X.base) I.ok.mod.kin hk (thn (ha pos pins s σ H _ I h) fun us s1 ⟨vs,H1,I1,r,q⟩=>⟨I1.kIn,?_⟩) he hpl
  exact run_fn F hr hb hd hx I1 r q
structure Mk (K:PySem.W.Frag) (C f:Addr):Prop where
  makes:PySem.W.makesIn K C=true
  init:PySem.W.findIn K (.ref C) "__init__" = some (some (.ref f))
  fn:PySem.W.isFn K (.ref f)=true
  kp:PySem.W.keepIn K (.ref C)=true
theorem run_make {pins:List (Addr × Obj)} {σ:St} {H:Hp} {s:Shared} {Q:VK} {us:List Value} {vs:List V} (M:Mk X.K C f) (F:FnOk X.prog X.w X.K X.mg X.base CX k f fd ps sp) (hr:Room (k+1) X.A) (hb:Binds X.K fd ps ds) (hd:Vals dvs ds)
    (hx:Passes CX X E) (I:Inv X pins σ H s) (r:Vals vs us)
    (h:∀ x dx,H x=none→H dx=none→dx≠x→sp (.ref x::(vs++dvs)) (upd (upd H dx (.own x)) x (.ins C dx [])) (fun v H2=>v=.non∧Q (.ref x) H2) E) :
    wpAny (model X.prog X.w) X.A (call (.ref C) us) (EP X pins σ Q) X.xe s:=by
  have hq:=h (s.heap.objs.size+1) s.heap.objs.size (I.hok.fresh (Nat.le_succ _)) (I.hok.fresh (Nat.le_refl _)) (Nat.ne_of_lt (Nat.lt_succ_self _))
  have I2:=Inv.made (C:=C) I
  have r2:Vals (V.ref (s.heap.objs.size+1)::(vs++dvs)) (Value.ref (s.heap.objs.size+1)::(us++ds)):=.cons rfl (r.append hd)
  have hl:(Value.ref (s.heap.objs.size+1)::us++ds).length=ps.length:=by
    have e:=r2.length
    rw [F.len _ _ _ _ hq] at e
    exact e.symm
  refine wpAny_call (make_map (f:=f) I.kIn M.makes M.init (beq_iff_eq.mp M.fn) (codeAny_mono (F.run _ X.stack _ _ ⟨Value.ref (s.heap.objs.size+1)::us,[]⟩ (Value.ref (s.heap.objs.size+1)::(us++ds)) _ _ E (hr.make C us [])
    (I2.env0.make C us []) (hb _ (Value.ref (s.heap.objs.size+1)::us) I2.kIn hl) r2 hq) fun r s' hq'=>?_))
  cases r with
  | error e=>exact hx pins σ _ _ e s' I2 hq'
  | ok fl =>
    cases fl with
    | ret u =>
      obtain ⟨v,H',I3,rv,ev,q3⟩:=I2.after hq'
      subst ev
      exact ⟨rv,⟨V.ref (s.heap.objs.size+1),H',I3,rfl,q3⟩⟩
    | next=>exact False.elim hq'
    | brk=>exact False.elim hq'
    | cont=>exact False.elim hq'
theorem pe_make (M:Mk X.K C f) (F:FnOk X.prog X.w X.K X.mg X.base CX k f fd ps sp) (hr:Room (k+1) X.A) (hg:Gl X x) (hm:X.mg x=some (.ref C)) (hb:Binds X.K fd ps ds) (hd:Vals dvs ds) (hx:Passes CX X E)
    (ha:PA X (e::es) t) (hdb:(x == ("__debug__" : Str))=false:=by decide) (he:starEach (e::es) X.env=(false,eval e X.env)::starEach es X.env:=by rfl) (hpl:(backTo pos (starEach es X.env)).any (·.1)=false:=by rfl) :
    PE X (.Call (.Name x p) (e::es) [] pos) (tMake C sp dvs E t):=by
  intro pins s σ H Q I h
  refine wpAny_Call_Name_kw (ld_glob I hg hm ?_ hdb)
  refine PySem.W.callWith_K (h₀:=X.base) I.ok.mod.kin M.kp (thn (ha pos pins s σ H _ I h) fun us s1 ⟨vs,H1,I1,r,q⟩=>⟨I1.kIn,?_⟩) he hpl
  exact run_make M F hr hb hd hx I1 r q
theorem pe_make0 (M:Mk X.K C f) (F:FnOk X.prog X.w X.K X.mg X.base CX k f fd ps sp) (hr:Room (k+1) X.A) (hg:Gl X x) (hm:X.mg x=some (.ref C)) (hb:Binds X.K fd ps ds) (hd:Vals dvs ds) (hx:Passes CX X E)
    (hdb:(x == ("__debug__" : Str))=false:=by decide):PE X (.Call (.Name x p) [] [] pos) (tMake C sp dvs E tNil):=by
  intro pins s σ H Q I h
  refine wpAny_Call_Name_kw (ld_glob I hg hm ?_ hdb)
  exact PySem.W.callWith_K0 I.kIn M.kp (run_make (us:=[]) M F hr hb hd hx I .nil h)
end
section
variable {X:Cx} {CX:CXT} {k:Nat} {f C:Addr} {fd:FuncData} {ps ks:List Str} {sp:Sp} {E:XK} {x m:Str} {p pos apos kpos:Pos} {e o:Expr} {es:List Expr} {kws:List Keyword} {te ta:TE} {t tk:TA} {nm:Option Str}
variable {g:List Value→List Value→List Value} {gV:List V→List V→List V}
end
structure FnScope (N P:List Str) (sc:Scope):Prop where
  kind:sc.kind=.function
  co:sc.isCoroutine=false
  gen:sc.isGenerator=false
  nd:N.Nodup
  pre:N.take P.length=P
  par:∀ x∈P,sc.names.lookup x=some .local∨sc.names.lookup x=some .cell
  nofree:∀ y∈sc.names,y.2≠.free
theorem bindL_out {kindOf:Str→Option NameKind} {x:Str}:∀ {binds:List (Str × Value)} {m:Str→Option Value},(∀ v,(x,v)∉binds)→bindL kindOf binds m x=m x
  | [],_,_=>rfl
  | (n,v)::r,m,h=>by
    unfold bindL
    rw [bindL_out fun w hw=>h w (List.mem_cons_of_mem _ hw)]
    split
    · have:x≠n:=by rintro rfl;exact h v List.mem_cons_self
      simp [this]
    · rfl
theorem bindC_out {kindOf:Str→Option NameKind} {x:Str}:∀ {binds:List (Str × Value)} {m:Str→Option Value},(∀ v,(x,v)∉binds)→bindC kindOf binds m x=m x
  | [],_,_=>rfl
  | (n,v)::r,m,h=>by
    unfold bindC
    rw [bindC_out fun w hw=>h w (List.mem_cons_of_mem _ hw)]
    split
    · rfl
    · have:x≠n:=by rintro rfl;exact h v List.mem_cons_self
      simp [this]
theorem bindL_get {kindOf:Str→Option NameKind} {x:Str} {v:Value}:∀ {P:List Str} {vs:List Value} {i:Nat} {m:Str→Option Value},P.Nodup→P[i]?=some x→vs[i]?=some v→kindOf x=some .local →
    bindL kindOf (P.zip vs) m x=some v
  | [],_,_,_,_,h,_,_=>by simp at h
  | _::_,[],_,_,_,_,h,_=>by simp at h
  | p::P,w::vs,0,m,nd,h1,h2,hk=>by
    simp at h1 h2;subst h1;subst h2
    show bindL kindOf ((p,w)::P.zip vs) m p=_
    unfold bindL
    rw [bindL_out fun v hv=>(List.nodup_cons.mp nd).1 (List.of_mem_zip hv).1,if_pos hk]
    simp
  | p::P,w::vs,i+1,m,nd,h1,h2,hk=>by
    show bindL kindOf ((p,w)::P.zip vs) m x=_
    unfold bindL
    exact bindL_get (i:=i) (List.nodup_cons.mp nd).2 (by simpa using h1) (by simpa using h2) hk
theorem bindC_get {kindOf:Str→Option NameKind} {x:Str} {v:Value}:∀ {P:List Str} {vs:List Value} {i:Nat} {m:Str→Option Value},P.Nodup→P[i]?=some x→vs[i]?=some v→kindOf x≠some .local →
    bindC kindOf (P.zip vs) m x=some v
  | [],_,_,_,_,h,_,_=>by simp at h
  | _::_,[],_,_,_,_,h,_=>by simp at h
  | p::P,w::vs,0,m,nd,h1,h2,hk=>by
    simp at h1 h2;subst h1;subst h2
    show bindC kindOf ((p,w)::P.zip vs) m p=_
    unfold bindC
    rw [bindC_out fun v hv=>(List.nodup_cons.mp nd).1 (List.of_mem_zip hv).1,if_neg hk]
    simp
  | p::P,w::vs,i+1,m,nd,h1,h2,hk=>by
    show bindC kindOf ((p,w)::P.zip vs) m x=_
    unfold bindC
    exact bindC_get (i:=i) (List.nodup_cons.mp nd).2 (by simpa using h1) (by simpa using h2) hk
def start (N:List Str) (vs:List V):St:=vs.map some++List.replicate (N.length - vs.length) none
def cxOf (CX:CXT) (P:Program) (w:World) (K:PySem.W.Frag) (mg:Str→Option Value) (base:Heap) (N:List Str) (qual:Str) (scope:Scope) (f:Addr) (cd:Value) (A:Around) (outer:List Env) (s:Shared) (H:Hp) (E:XK):Cx where
  prog:=P
  w:=w
  K:=K
  mg:=mg
  base:=base
  A:=A.deeper (envOfC qual scope s.heap.objs.size f cd)
  N:=N
  s_0:=s
  H_0:=H
  env:=envOfC qual scope s.heap.objs.size f cd
  outer:=outer
  stack:=envOfC qual scope s.heap.objs.size f cd::outer
  ex:=[]
  calm:=true
  fn:=fun _=>true
  pn:=[]
  xe:=fun e s'=>wpAny (model P w) (A.deeper (envOfC qual scope s.heap.objs.size f cd)) (leaving (envOfC qual scope s.heap.objs.size f cd) e) (fun _ s''=>CX outer H s E e s'') (fun e' s''=>CX outer H s E e' s'') s'
theorem cell_has {sc:Scope} {n:Nat} {x:Str} (h:sc.names.lookup x=some .cell):∃ c,(cellsFrom n sc.names []).lookup x=some c:=by
  have q:=PySem.W.cellsFrom_some sc.names n [] (.inl h)
  exact Option.isSome_iff_exists.mp q
theorem inv_start {CX:CXT} {P:Program} {w:World} {K:PySem.W.Frag} {mg:Str→Option Value} {base:Heap} {N ps:List Str} {qual:Str} {scope:Scope} {f:Addr} {cd:Value} {A:Around} {outer:List Env} {s s1:Shared} {H:Hp} {E:XK} {us:List Value} {vs:List V}
    (S:FnScope N ps scope) (hd:A.handled=none) (e0:Env0 P w K mg base A outer s H) (hl:vs.length=ps.length) (r:Vals vs us)
    (x:InCallC s s.heap.objs.size (bindL (envOfC qual scope s.heap.objs.size f cd).kindOf (ps.zip us) fun _=>none) (cellsFrom (s.heap.objs.size+1) scope.names []) (bindC (envOfC qual scope s.heap.objs.size f cd).kindOf (ps.zip us) fun _=>none) s1) :
    Inv (cxOf CX P w K mg base N qual scope f cd A outer s H E) [] (start N vs) H s1:=by
  have hpl:ps.length≤N.length:=by have:=congrArg List.length S.pre;rw [List.length_take] at this;omega
  obtain ⟨h1,tk,rfl,hk⟩:=x.done
  have noA:∀ b:Addr,b∉(cxOf CX P w K mg base N qual scope f cd A outer s H E).ex:=fun b z=>absurd (show b∈([]:List Addr) from z) (by simp)
  refine ⟨⟨e0.mod,S.kind,rfl,rfl,Nat.le_refl _,fun y z c h1 h2=>?_,fun y hy=>?_,fun y c _ h=>?_,fun _=>hd,Around.frames_deeper e0.frames,.inr ⟨rfl,rfl⟩,fun b z=>absurd z (noA b),e0.bs,e0.bsz,fun b _ _=>noA b,fun b z=>absurd z (noA b),e0.funs,e0.frf⟩,
    rfl,e0.bare,Un.kept hk,⟨_,x.toInCall.ns,fun i y v h1 h2 h3=>?_⟩,fun y c h=>⟨_,x.cell y c h⟩,e0.hok.fresh (Nat.le_refl _),fun y c h=>?_,fun p hp=>absurd (show p∈([]:List (Addr × Obj)) from hp) (by simp),e0.hok.kept hk,?_⟩
  · exact name_of_addr x.apart (PySem.mem_of_lookup h1) (PySem.mem_of_lookup h2)
  · have hy:scope.names.lookup y=some .cell∨scope.names.lookup y=some .free:=hy
    rcases hy with hy | hy
    · exact cell_has hy
    · exact absurd rfl (S.nofree _ (PySem.mem_of_lookup hy))
  · exact Nat.le_of_lt (x.above y c (PySem.mem_of_lookup h))
  · have hi:i<vs.length:=by
      unfold start at h2
      by_cases hi:i<vs.length
      · exact hi
      · rw [List.getElem?_append_right (by simpa using hi)] at h2
        rw [List.getElem?_replicate] at h2
        split at h2 <;> cases h2
    have ha:vs[i]?=some v:=by
      unfold start at h2
      rw [List.getElem?_append_left (by simpa using hi),List.getElem?_map] at h2
      cases e:vs[i]? with
      | none=>rw [e] at h2;cases h2
      | some a=>rw [e] at h2;cases h2;rfl
    obtain ⟨u,hu,rv⟩:=r.get ha
    have hp:ps[i]?=some y:=by
      rw [← S.pre,List.getElem?_take_of_lt (by omega)];exact h1
    have ndP:ps.Nodup:=by rw [← S.pre];exact S.nd.sublist (List.take_sublist _ _)
    refine ⟨u,rv,?_⟩
    rcases S.par y (List.mem_of_getElem? hp) with k | k
    · exact .inl ⟨k,bindL_get ndP hp hu k⟩
    · obtain ⟨c,e⟩:=cell_has (n:=s.heap.objs.size+1) k
      refine .inr ⟨.inl k,c,e,?_⟩
      have q:=x.cell y c e
      rw [bindC_get ndP hp hu (by show scope.names.lookup y≠_;rw [k];decide)] at q
      exact q
  · exact e0.hok.fresh (Nat.le_of_lt (x.above y c (PySem.mem_of_lookup h)))
  · unfold start
    show _=N.length
    rw [List.length_append,List.length_map,List.length_replicate]
    omega
theorem fn_of {CX:CXT} {P:Program} {w:World} {K:PySem.W.Frag} {mg:Str→Option Value} {base:Heap} {k:Nat} {f:Addr} {name qual:Str} {params:Arguments} {body:List Stmt} {scope:Scope} {dV kV doc pm cdv ct oc:Value} {an od:Option Addr}
    {osl:Array (Option Value)} {N ps:List Str} {sp:Sp} (lk:K.lookup f=some ⟨oc,od,.func (PySem.W.fnOf name qual params body scope dV kV doc pm an cdv ct),osl⟩) (hcd:PySem.W.codeIn K cdv qual=true) (S:FnScope N ps scope)
    (len:∀ vs H Q E,sp vs H Q E→vs.length=ps.length)
    (hbody:∀ (A:Around) (outer:List Env) (s:Shared) (H:Hp) (vs:List V) (Q:VK) (E:XK),Room k (A.deeper (envOfC qual scope s.heap.objs.size f cdv))→sp vs H Q E →
      ∃ t,PSs (cxOf CX P w K mg base N qual scope f cdv A outer s H E) body t∧t { nx:=fun _ H'=>Q .non H',rt:=Q } (start N vs) H) :
    FnOk P w K mg base CX (k+1) f (PySem.W.fnOf name qual params body scope dV kV doc pm an cdv ct) ps sp:=by
  refine ⟨len,fun A outer s H args us vs Q E hr e0 hb r hsp=>?_⟩
  have hl:=len _ _ _ _ hsp
  have KX:K.In s.heap:=e0.mod.kin.keeps fun b o e=>(e0.bs b o e).1
  have lim:s.heap.NoLimit:=e0.mod.nolimit.keeps fun b o e=>(e0.bs b o e).1
  have hkind:∀ y∈ps.zip us,scope.names.lookup y.1=some .local∨(scope.names.lookup y.1=some .cell∧((cellsFrom (s.heap.objs.size+1) scope.names []).lookup y.1).isSome=true):=fun ⟨n,v⟩ hy=>by
    rcases S.par n (List.of_mem_zip hy).1 with q | q
    · exact .inl q
    · exact .inr ⟨q,PySem.W.cellsFrom_some _ _ _ (.inl q)⟩
  refine codeAny_call_function hr.depth (KX _ _ lk) rfl S.co S.gen rfl (PySem.W.codeRec_of KX hcd) (hb _ _ _ _ ?_)
  refine wpAny_newFunctionEnv_cells S.kind hkind fun env he s1 x=>?_
  subst he
  refine ⟨lim.keeps x.toInCall.keep,codeAny_func ?_⟩
  obtain ⟨t,ht,hq⟩:=hbody A outer s H vs Q E (hr.deeper _) hsp
  have I:Inv (cxOf CX P w K mg base N qual scope f cdv A outer s H E) [] (start N vs) H s1:=inv_start S hr.hd e0 hl r x
  refine wpAny_mono (ht [] s1 (start N vs) H _ I hq) (fun fl s' hs=>?_) fun e s' hs=>hs
  have fin:∀ {σ' : St} {H' : Hp} {v:V} {u:Value},Inv (cxOf CX P w K mg base N qual scope f cdv A outer s H E) [] σ' H' s'→RelV v u→Q v H'→CE outer P w H s Q u s' :=
    fun {σ' H' v u} J rv q=>⟨v,H',J.os,J.bare,J.base,J.hok,rv,q⟩
  cases fl with
  | ret u =>
    obtain ⟨v,σ',H',J,rv,q⟩:=hs
    exact fin J rv q
  | next =>
    obtain ⟨σ',H',J,q⟩:=hs
    exact fin (v:=V.non) (u:=Value.none) J rfl q
  | brk =>
    obtain ⟨_,_,_,q⟩:=hs
    exact False.elim q
  | cont =>
    obtain ⟨_,_,_,q⟩:=hs
    exact False.elim q
end L2
namespace L2
open PySem PySem.Spec PyProof.Rows
section
variable {X:Cx} {x:Str} {p pos:Pos} {e:Expr} {es:List Expr} {t:TA} {id T:String} {r:List V→Hp→VK→Prop}
def tCB (r:List V→Hp→VK→Prop) (t:TA):TE:=fun σ H Q=>t σ H fun vs H1=>r vs H1 Q
theorem pe_callB (hc:CallR X (.builtin id) r) (hg:Gl X x) (hm:X.mg x=none) (hv:bootBuiltins x=some (.builtin id)) (ha:PA X (e::es) t) (hn:x ≠ "__name__":=by decide) (hdb:(x == ("__debug__" : Str))=false:=by decide)
    (he:starEach (e::es) X.env=(false,eval e X.env)::starEach es X.env:=by rfl) (hpl:(backTo pos (starEach es X.env)).any (·.1)=false:=by rfl):PE X (.Call (.Name x p) (e::es) [] pos) (tCB r t):=by
  intro pins s σ H Q I h
  refine wpAny_Call_Name_kw (ld_blt I hg hm hv ?_ hn hdb)
  exact PyProof.Rows.callWith_builtin1 (thn (ha pos pins s σ H _ I h) fun us s1 ⟨vs,H1,I1,r1,q1⟩=>hc pins s1 σ H1 vs us Q I1 r1 q1) he hpl
end
end L2
namespace HT
open PySem PyProof.Rows
section
open PySem.SeqAt
open PySem.AutoSeq1 (wpAny_loadPart')
open PySem.MeetsSeq PySem.MeetsSeq2 PySem.MeetsSeq3
end
section
variable {prog:Program} {w:World} {A:Around} {E:Value→Shared→Prop} {s:Shared}
def sIx (n d:Nat):Option Int→Nat
  | none=>d
  | some v=>if v<0 then (v+(n:Int)).toNat else min v.toNat n
theorem sIx_none (n d:Nat):sIx n d none=d:=rfl
theorem sIx_nat (n d k:Nat):sIx n d (some (k:Int))=min k n:=by
  show (if (k:Int)<0 then ((k:Int)+(n:Int)).toNat else min (k:Int).toNat n)=min k n
  rw [if_neg (by omega),Int.toNat_natCast]
end
end HT
namespace L2
open PySem PySem.Spec PyProof.Rows
abbrev TO:=St→Hp→(Option Int→Hp→Prop)→Prop
def PO (X:Cx) (e:Option Expr) (t:TO):Prop :=
  ∀ (pins:List (Addr × Obj)) (s:Shared) (σ:St) (H:Hp) (Q:Option Int→Hp→Prop),Inv X pins σ H s→t σ H Q →
    wpAny (model X.prog X.w) X.A (evalPart e X.env) (fun u s'=>∃ o H',Inv X pins σ H' s'∧IsPart u o∧Q o H') X.xe s
def tNoPart:TO:=fun _ H Q=>Q none H
def tPart (t:TE):TO:=fun σ H Q=>t σ H fun x H1=>∃ i,x=.int i∧Q (some i) H1
section
variable {X:Cx} {e:Expr} {te:TE} {lo hi:Option Expr} {tl th:TO} {pos p2:Pos}
theorem po_none:PO X none tNoPart:=by
  intro pins s σ H Q I h
  rw [evalPart_none]
  exact wpAny_pure ⟨none,H,I,.none,h⟩
theorem po_some (h:PE X e te):PO X (some e) (tPart te):=by
  intro pins s σ H Q I hw
  rw [evalPart_some]
  refine thn (h pins s σ H _ I hw) fun u s1 ⟨x,H1,I1,r1,q1⟩=>?_
  obtain ⟨i,rfl,q⟩:=q1
  obtain ⟨t,rfl⟩:=r1
  exact ⟨some i,H1,I1,.int i t,q⟩
def SlR (X:Cx) (r:V→Option Int→Option Int→Hp→VK→Prop):Prop :=
  ∀ (pins:List (Addr × Obj)) (s:Shared) (σ:St) (H:Hp) (x:V) (v vl vu:Value) (lo hi:Option Int) (sl:Addr) (Q:VK),Inv X pins σ H s→RelV x v→s.heap.IsSliceOf sl vl vu .none→IsPart vl lo→IsPart vu hi→r x lo hi H Q →
    ∃ T id,typeLookup (.type T) "__getitem__" = pure (some (.builtin id))∧s.TypeIs v T∧wpAny (model X.prog X.w) X.A (getItem v (.ref sl)) (EP X pins σ Q) X.xe s
def tSl (r:V→Option Int→Option Int→Hp→VK→Prop) (te:TE) (tl th:TO):TE:=fun σ H Q=>te σ H fun x H1=>tl σ H1 fun l H2=>th σ H2 fun u H3=>r x l u H3 Q
theorem pe_slice {r:V→Option Int→Option Int→Hp→VK→Prop} (hr:SlR X r) (he:PE X e te) (hl:PO X lo tl) (hu:PO X hi th):PE X (.Subscript e (.Slice lo hi none p2) pos) (tSl r te tl th):=by
  intro pins s σ H Q I h
  refine Subscript_ (thn (he pins s σ H _ I h) fun v s1 ⟨x,H1,I1,r1,q1⟩=>?_)
  refine wpAny_Slice (thn (hl pins s1 σ H1 _ I1 q1) fun vl s2 ⟨l,H2,I2,pl,q2⟩=>thn (hu pins s2 σ H2 _ I2 q2) fun vu s3 ⟨u,H3,I3,pu,q3⟩=>?_)
  rw [evalPart_none]
  refine wpAny_pure ?_
  have I4:Inv X pins σ H3 { s3 with heap:=s3.heap.push { cls:=.type "slice",data:=.fields #[vl,vu,.none] } }:=I3.kept (t':=s3.toks) fun b ob q=>Heap.get?_push_of_some _ q
  obtain ⟨T,id,hT,ht,hg⟩:=hr pins { s3 with heap:=s3.heap.push { cls:=.type "slice",data:=.fields #[vl,vu,.none] } } σ H3 x v vl vu l u s3.heap.objs.size Q I4 r1 (Heap.IsSliceOf.new ..) pl pu q3
  show wpAny (model X.prog X.w) X.A (subscriptTail e (.Slice lo hi none p2) v (.ref s3.heap.objs.size)) (EP X pins σ Q) X.xe { s3 with heap:=s3.heap.push { cls:=.type "slice",data:=.fields #[vl,vu,.none] } }
  exact tail_any (ops:=[.ref s3.heap.objs.size,v]) ht hT hg (by with_unfolding_all rfl)
def cutV (xs:List V) (lo hi:Option Int):List V:=(xs.drop (HT.sIx xs.length 0 lo)).take (HT.sIx xs.length xs.length hi - HT.sIx xs.length 0 lo)
theorem cutV_length (xs:List V) (lo hi:Option Int):(cutV xs lo hi).length≤xs.length:=by
  unfold cutV
  rw [List.length_take,List.length_drop]
  omega
end
end L2
namespace L2
open PySem PySem.Spec PyProof.Rows
def ixN (n:Nat) (i:Int):Option Nat:=if 0≤i then (if i<n then some i.toNat else none) else if -(n:Int)≤i then some (i+n).toNat else none
def atI {α:Type} (xs:List α) (i:Int):Option α:=(ixN xs.length i).bind fun j=>xs[j]?
theorem ixN_seq {n:Nat} {i:Int} {j:Nat} (h:ixN n i=some j):seqIndex? i n=some j∧j<n∧-(n:Int)≤i∧i<n:=by
  unfold ixN at h
  by_cases h0:0≤i
  · rw [if_pos h0] at h
    by_cases h1:i<n
    · rw [if_pos h1] at h
      have e:i.toNat=j:=Option.some.inj h
      exact ⟨by rw [seqIndex_of h0 h1,e],by omega,by omega,h1⟩
    · rw [if_neg h1] at h;cases h
  · rw [if_neg h0] at h
    by_cases h1 : -(n:Int)≤i
    · rw [if_pos h1] at h
      have e:(i+n).toNat=j:=Option.some.inj h
      exact ⟨by rw [seqIndex_neg (by omega) h1,e],by omega,h1,by omega⟩
    · rw [if_neg h1] at h;cases h
theorem atI_get {α:Type} {xs:List α} {i:Int} {v:α} (h:atI xs i=some v):∃ j,seqIndex? i xs.length=some j∧xs[j]?=some v∧j<xs.length∧-(xs.length:Int)≤i∧i<xs.length:=by
  unfold atI at h
  cases e:ixN xs.length i with
  | none=>rw [e] at h;cases h
  | some j =>
    rw [e] at h
    obtain ⟨h1,h2,h3,h4⟩:=ixN_seq e
    exact ⟨j,h1,h,h2,h3,h4⟩
theorem atI_nat {α:Type} {xs:List α} {j:Nat} {v:α} (h:xs[j]?=some v):atI xs (j:Int)=some v:=by
  have hj:j<xs.length:=(List.getElem?_eq_some_iff.mp h).1
  have e:ixN xs.length (j:Int)=some j:=by
    unfold ixN
    rw [if_pos (by omega),if_pos (by omega)];simp
  unfold atI;rw [e];exact h
def PlainIx (b:Expr):Prop:=∀ o i,subscripted b false o i=operate [o,i] (getItem o i)
def IxR (X:Cx) (r:R2):Prop :=
  ∀ (value slice:Expr) (pins:List (Addr × Obj)) (s:Shared) (σ:St) (H:Hp) (x y:V) (v u:Value) (Q:VK),Inv X pins σ H s→RelV x v→RelV y u→r x y H Q →
    subscripted slice false v u=operate [v,u] (getItem v u)→wpAny (model X.prog X.w) X.A (subscriptTail value slice v u) (EP X pins σ Q) X.xe s
def MtR (X:Cx) (id:String) (r:V→List V→Hp→VK→Prop):Prop :=
  ∀ (pins:List (Addr × Obj)) (s:Shared) (σ:St) (H:Hp) (x:V) (xs:List V) (v:Value) (us:List Value) (Q:VK),Inv X pins σ H s→RelV x v→Vals xs us→r x xs H Q →
    wpAny (model X.prog X.w) X.A (call (.builtin id) (v::us)) (EP X pins σ Q) X.xe s
section
variable {X:Cx} {a b:Expr} {ta tb:TE} {pos:Pos}
theorem pe_ix {r:R2} (hr:IxR X r) (ha:PE X a ta) (hb:PE X b tb) (hs:PlainIx b):PE X (.Subscript a b pos) (tOp r ta tb):=by
  intro pins s σ H Q I h
  exact Subscript_ (binT ha hb I h fun v u s2 x y H2 I2 rx ry q=>hr a b pins s2 σ H2 x y v u Q I2 rx ry q (hs _ _))
def rIxL (K:PySem.W.Frag):R2:=fun x y H Q=>∃ p xs i v,x=.ref p∧y=.int i∧SqL K H p xs∧atI xs i=some v∧Q v H
theorem ix_list:IxR X (rIxL X.K):=by
  intro value slice pins s σ H x y v u Q I rx ry h hs
  obtain ⟨p,xs,i,z,rfl,rfl,hq,he,q⟩:=h
  cases rx
  obtain ⟨t,rfl⟩:=ry
  obtain ⟨its,r,pl,hz⟩:=I.list hq
  obtain ⟨j,h1,h2,h3,h4,h5⟩:=atI_get he
  obtain ⟨w,ew,rw'⟩:=r.get h2
  have hl:=r.length
  have hn:=line63
  have fin:EP X pins σ Q w s:=⟨z,H,I,rw',q⟩
  by_cases h0:0≤i
  · have hj:i.toNat=j:=by
      rw [seqIndex_of h0 h5] at h1
      exact Option.some.inj h1
    exact item_listR pl.isList h0 (by omega) (by rw [hj];simpa using ew) fin hs
  · have hj:(i+(its.toArray.size:Int)).toNat=j:=by
      rw [seqIndex_neg (by omega) h4] at h1
      rw [List.size_toArray,← hl]
      exact Option.some.inj h1
    exact subscriptTail_builtinR (x:=w) pl.isList.typeIs slot_list_getitem.lookup
      (wpAny_getItem_list_neg (Q:=fun r s'=>r=w∧EP X pins σ Q r s') pl.isList (by omega) (by rw [List.size_toArray] <;> omega) (by omega) (by rw [hj];simpa using ew) ⟨rfl,fin⟩) hs
theorem slice_bounds (lo hi:Option Int) (n:Nat):(sliceBounds lo hi none n).1=((HT.sIx n 0 lo:Nat):Int)∧(sliceBounds lo hi none n).2.1=((HT.sIx n n hi:Nat):Int)∧(sliceBounds lo hi none n).2.2=1:=by
  refine ⟨?_,?_,rfl⟩
  · cases lo with
    | none=>simp [sliceBounds,HT.sIx]
    | some i =>
      simp only [sliceBounds,HT.sIx,Option.getD_none,show (1:Int)>0 by decide,if_true]
      by_cases h:i<0
      · simp only [h,if_true] <;> omega
      · simp only [h,if_false] <;> omega
  · cases hi with
    | none=>simp [sliceBounds,HT.sIx]
    | some i =>
      simp only [sliceBounds,HT.sIx,Option.getD_none,show (1:Int)>0 by decide,if_true]
      by_cases h:i<0
      · simp only [h,if_true] <;> omega
      · simp only [h,if_false] <;> omega
theorem slicePick_cut (its:List Value) (lo hi:Option Int):slicePick its.toArray lo hi none=((its.drop (HT.sIx its.length 0 lo)).take (HT.sIx its.length its.length hi - HT.sIx its.length 0 lo)).toArray:=by
  obtain ⟨h1,h2,h3⟩:=slice_bounds lo hi its.toArray.size
  unfold slicePick
  rw [h1,h2,h3]
  simp only [sliceRange_one,pick_run,List.size_toArray] <;> rfl
def rSlL (K:PySem.W.Frag):V→Option Int→Option Int→Hp→VK→Prop:=fun x lo hi H Q=>∃ a xs,x=.ref a∧SqL K H a xs∧∀ p,H p=none→Q (.ref p) (upd H p (.lst (cutV xs lo hi)))
theorem sl_list:SlR X (rSlL X.K):=by
  intro pins s σ H x v vl vu lo hi sl Q I rx hs pl pu h
  obtain ⟨a,xs,rfl,hx,q⟩:=h
  cases rx
  obtain ⟨its,r,ht,hz⟩:=I.list hx
  have hlen:=r.length
  refine ⟨"list",_,slot_list_getitem.lookup,ht.isList.typeIs,?_⟩
  refine wpAny_getItem_list_slice ht.isList hs pl pu .none (by simp) ?_ (by rw [List.size_toArray] <;> omega)
  rw [slicePick_cut,← hlen]
  refine ⟨.ref s.heap.objs.size,_,I.laid (t':=s.toks) (o:=.lst (cutV xs lo hi)) (fun b ob q=>Heap.get?_push_of_some _ q) (Nat.le_refl _) ?_,rfl,q _ (I.hok.fresh (Nat.le_refl _))⟩
  exact ⟨Nat.le_trans (cutV_length xs lo hi) hz,_,0,(r.drop (HT.sIx xs.length 0 lo)).take (HT.sIx xs.length xs.length hi - HT.sIx xs.length 0 lo),Heap.get?_push_size _ rfl⟩
def flatV:V→Bool
  | .non=>true
  | .bl _=>true
  | .int _=>true
  | .str _=>true
  | _=>false
def eqV:V→V→Bool
  | .non,.non=>true
  | .bl a,.bl b=>a == b
  | .bl a,.int b=>(if a then 1 else 0) == b
  | .int a,.bl b=>a == (if b then 1 else 0)
  | .int a,.int b=>a == b
  | .str a,.str b=>a == b
  | _,_=>false
theorem eqAt_V {A:Around} {s:Shared} {y x:V} {u v:Value} (ry:RelV y u) (rx:RelV x v) (fy:flatV y=true) (fx:flatV x=true):SeqAt.EqAt A s u v (eqV y x):=by
  cases y with
  | non =>
    cases ry
    cases x with
    | non=>cases rx;exact SeqAt.EqAt.same _
    | bl b=>cases rx;exact SeqAt.EqAt.none_bool b
    | int b=>obtain ⟨t,rfl⟩:=rx;exact SeqAt.EqAt.none_int b t
    | str b=>obtain ⟨t,rfl⟩:=rx;exact SeqAt.EqAt.none_str b t
    | _=>exact absurd (show false=true from fx) Bool.false_ne_true
  | bl a =>
    cases ry
    cases x with
    | non=>cases rx;exact SeqAt.EqAt.bool_none a
    | bl b=>cases rx;exact SeqAt.EqAt.bool_bool a b
    | int b=>obtain ⟨t,rfl⟩:=rx;exact SeqAt.EqAt.bool_int a b t
    | str b=>obtain ⟨t,rfl⟩:=rx;exact SeqAt.EqAt.bool_str a b t
    | _=>exact absurd (show false=true from fx) Bool.false_ne_true
  | int a =>
    obtain ⟨t',rfl⟩:=ry
    cases x with
    | non=>cases rx;exact SeqAt.EqAt.int_none a t'
    | bl b=>cases rx;exact SeqAt.EqAt.int_bool a t' b
    | int b=>obtain ⟨t,rfl⟩:=rx;exact SeqAt.EqAt.int_int a t' b t
    | str b=>obtain ⟨t,rfl⟩:=rx;exact SeqAt.EqAt.int_str a t' b t
    | _=>exact absurd (show false=true from fx) Bool.false_ne_true
  | str a =>
    obtain ⟨t',rfl⟩:=ry
    cases x with
    | non=>cases rx;exact SeqAt.EqAt.str_none a t'
    | bl b=>cases rx;exact SeqAt.EqAt.str_bool a t' b
    | int b=>obtain ⟨t,rfl⟩:=rx;exact SeqAt.EqAt.str_int a t' b t
    | str b=>obtain ⟨t,rfl⟩:=rx;exact SeqAt.EqAt.str_str a t' b t
    | _=>exact absurd (show false=true from fx) Bool.false_ne_true
  | _=>exact absurd (show false=true from fy) Bool.false_ne_true
def eqU (x:V) (u:Value):Bool:=match u with
  | .none=>eqV .non x
  | .bool b=>eqV (.bl b) x
  | .int i _=>eqV (.int i) x
  | .str z _=>eqV (.str z) x
  | _=>false
theorem eqU_of {x y:V} {u:Value} (r:RelV y u) (f:flatV y=true):eqU x u=eqV y x:=by
  cases y with
  | non=>cases r;rfl
  | bl b=>cases r;rfl
  | int i=>obtain ⟨t,rfl⟩:=r;rfl
  | str z=>obtain ⟨t,rfl⟩:=r;rfl
  | _=>exact absurd (show false=true from f) Bool.false_ne_true
theorem any_eqU {x:V}:∀ {xs:List V} {us:List Value},Vals xs us→xs.all flatV=true→us.any (eqU x)=xs.any fun y=>eqV y x
  | _,_,.nil,_=>rfl
  | y::xs,u::us,.cons r t,f=>by
    rw [List.all_cons,Bool.and_eq_true] at f
    rw [List.any_cons,List.any_cons,eqU_of r f.1,any_eqU t f.2]
theorem mem_eqAt {A:Around} {s:Shared} {x:V} {v:Value} (rx:RelV x v) (fx:flatV x=true):∀ {xs:List V} {us:List Value},Vals xs us→xs.all flatV=true→∀ u∈us,SeqAt.EqAt A s u v (eqU x u)
  | _,_,.nil,_=>fun u hu=>by cases hu
  | y::xs,u::us,.cons r t,f=>fun u' hu=>by
    rw [List.all_cons,Bool.and_eq_true] at f
    rcases List.mem_cons.mp hu with rfl | hu
    · rw [eqU_of r f.1];exact eqAt_V r rx f.1 fx
    · exact mem_eqAt rx fx t f.2 u' hu
def inV (x:V) (xs:List V):Bool:=xs.any fun y=>eqV y x
def rIn (K:PySem.W.Frag) (neg:Bool):R2:=fun x y H Q=>∃ p xs,y=.ref p∧(SqL K H p xs∨SqT K H p xs)∧flatV x=true∧xs.all flatV=true∧Q (.bl (if neg then !inV x xs else inV x xs)) H
theorem op_in_seq:OpR X (compareOp .In) (rIn X.K false):=by
  intro pins s σ H x y v u Q I rx ry h
  obtain ⟨p,xs,rfl,hq,fx,fs,q⟩:=h
  cases ry
  rcases hq with hq | hq
  · obtain ⟨its,r,pl,hz⟩:=I.list hq
    refine SeqAt.in_listAt (eqU x) pl.isList (fun w hw=>mem_eqAt rx fx r fs w (by simpa using hw)) ⟨.bl _,H,I,rfl,?_⟩
    rw [show its.toArray.any (eqU x)=its.any (eqU x) by simp,any_eqU r fs]
    exact q
  · obtain ⟨its,r,pl,hz⟩:=I.tuple hq
    refine SeqAt.in_tupleAt (eqU x) pl (fun w hw=>mem_eqAt rx fx r fs w (by simpa using hw)) ⟨.bl _,H,I,rfl,?_⟩
    rw [show its.toArray.any (eqU x)=its.any (eqU x) by simp,any_eqU r fs]
    exact q
theorem op_notIn_seq:OpR X (compareOp .NotIn) (rIn X.K true):=by
  intro pins s σ H x y v u Q I rx ry h
  obtain ⟨p,xs,rfl,hq,fx,fs,q⟩:=h
  cases ry
  rcases hq with hq | hq
  · obtain ⟨its,r,pl,hz⟩:=I.list hq
    refine SeqAt.notIn_listAt (eqU x) pl.isList (fun w hw=>mem_eqAt rx fx r fs w (by simpa using hw)) ⟨.bl _,H,I,rfl,?_⟩
    rw [show its.toArray.any (eqU x)=its.any (eqU x) by simp,any_eqU r fs]
    exact q
  · obtain ⟨its,r,pl,hz⟩:=I.tuple hq
    refine SeqAt.notIn_tupleAt (eqU x) pl (fun w hw=>mem_eqAt rx fx r fs w (by simpa using hw)) ⟨.bl _,H,I,rfl,?_⟩
    rw [show its.toArray.any (eqU x)=its.any (eqU x) by simp,any_eqU r fs]
    exact q
theorem call_len_seq:CallR X (.builtin "len") (fun xs H Q=>∃ p ys,xs=[.ref p]∧(SqL X.K H p ys∨SqT X.K H p ys)∧Q (.int ys.length) H):=by
  intro pins s σ H xs us Q I r h
  obtain ⟨p,ys,rfl,hq,q⟩:=h
  obtain ⟨u,rfl,rx⟩:=vals1 r
  cases rx
  have hn:=line63
  rcases hq with hq | hq
  · obtain ⟨its,r',pl,hz⟩:=I.list hq
    have hlen:=r'.length
    exact Calls.call_len_list pl.isList (by simp only [List.size_toArray] <;> omega) ⟨.int ys.length,H,I.tok _,⟨s.toks+1,by rw [List.size_toArray,hlen]⟩,q⟩
  · obtain ⟨its,r',pl,hz⟩:=I.tuple hq
    have hlen:=r'.length
    exact len_tuple pl (by simp only [List.size_toArray] <;> omega) ⟨.int ys.length,H,I.tok _,⟨s.toks+1,by rw [List.size_toArray,hlen]⟩,q⟩
def tyV (K:PySem.W.Frag) (T:String) (x:V) (H:Hp):Prop:=match x with
  | .str _=>T = "str"
  | .int _=>T = "int"
  | .ref p=>(T = "list"∧∃ xs,SqL K H p xs)∨(T = "tuple"∧∃ o,K.lookup p=some o∧o.cls=.type "tuple"∧o.dict=none) ∨
      (T = "dict"∧((∃ kvs,H p=some (.dK kvs))∨∃ kvs,H p=some (.dT kvs)))∨(T = "set"∧∃ S n,H p=some (.set S n))
  | _=>False
theorem tyV_is {pins:List (Addr × Obj)} {σ:St} {H:Hp} {s:Shared} {T:String} {x:V} {v:Value} (I:Inv X pins σ H s) (r:RelV x v) (ty:tyV X.K T x H) :
    s.TypeIs v T∧∀ a,v=.ref a→∃ ob,s.heap.get? a=some ob∧ob.dict=none:=by
  cases x with
  | str z =>
    obtain ⟨t,rfl⟩:=r
    cases (show T = "str" from ty)
    exact ⟨typeIs_str s z t,fun _ e=>nomatch e⟩
  | int i =>
    obtain ⟨t,rfl⟩:=r
    cases (show T = "int" from ty)
    exact ⟨typeIs_int s i t,fun _ e=>nomatch e⟩
  | ref p =>
    cases r
    rcases ty with ⟨rfl,xs,hq⟩ | ⟨rfl,o,hk,hc,hd⟩ | ⟨rfl,hk⟩ | ⟨rfl,S,n,hk⟩
    · obtain ⟨its,_,pl,_⟩:=I.list hq
      refine ⟨pl.isList.typeIs,fun a e=>?_⟩
      cases e
      obtain ⟨o,n,e,c,hd,_⟩:=pl
      exact ⟨o,e,hd⟩
    · refine ⟨⟨o,I.kIn p o hk,hc⟩,fun a e=>?_⟩
      cases e
      exact ⟨o,I.kIn _ o hk,hd⟩
    · have z:∃ o,s.heap.get? p=some o∧o.ExactDict:=by
        rcases hk with ⟨kvs,hk⟩ | ⟨kvs,hk⟩
        · obtain ⟨_,_,_,_,o,_,_,e,ex,_⟩:=I.hok p _ hk
          exact ⟨o,e,ex⟩
        · obtain ⟨_,_,_,_,o,_,_,e,ex,_⟩:=I.hok p _ hk
          exact ⟨o,e,ex⟩
      obtain ⟨o,e,ex⟩:=z
      refine ⟨⟨o,e,ex.1⟩,fun a e2=>?_⟩
      cases e2
      exact ⟨o,e,ex.2.1⟩
    · obtain ⟨o,_,_,_,e,ex,_⟩:=I.hok p _ hk
      refine ⟨⟨o,e,ex.1⟩,fun a e2=>?_⟩
      cases e2
      exact ⟨o,e,ex.2.1⟩
  | _=>exact False.elim ty
def tBM0 (K:PySem.W.Frag) (T:String) (r:V→List V→Hp→VK→Prop) (to:TE):TE:=fun σ H Q=>to σ H fun x H1=>tyV K T x H1∧r x [] H1 Q
def tBM (K:PySem.W.Frag) (T:String) (r:V→List V→Hp→VK→Prop) (to:TE) (t:TA):TE:=fun σ H Q=>to σ H fun x H1=>tyV K T x H1∧t σ H1 fun xs H2=>r x xs H2 Q
variable {o e:Expr} {es:List Expr} {to:TE} {t:TA} {name:Str} {apos cpos:Pos} {T id:String} {r:V→List V→Hp→VK→Prop}
theorem pe_bm0 (pa:PlainAttrs T) (slot:Slot T name id) (hty:typeOf (.builtin id)=pure (.type "method_descriptor")) (hm:MtR X id r) (ho:PE X o to)
    (hbase:attributeBase o name X.env (eval o X.env)=eval o X.env:=by rfl) (hline:(apos.endLine == cpos.line)=true:=by rfl):PE X (.Call (.Attribute o name apos) [] [] cpos) (tBM0 X.K T r to):=by
  intro pins s σ H Q I h
  refine wpAny_Call_method0_late hbase hline (thn (ho pins s σ H _ I h) fun v s1 ⟨x,H1,I1,r1,ty,q1⟩=>?_)
  obtain ⟨h1,h2⟩:=tyV_is I1 r1 ty
  exact ⟨T,id,pa,slot,hty,h1,h2,Calls.callWith_builtin rfl (PySem.evalArgs_none (hm pins s1 σ H1 x [] v [] Q I1 r1 .nil q1))⟩
theorem pe_bm (pa:PlainAttrs T) (slot:Slot T name id) (hty:typeOf (.builtin id)=pure (.type "method_descriptor")) (hm:MtR X id r) (ho:PE X o to) (ha:PA X (e::es) t)
    (hbase:attributeBase o name X.env (eval o X.env)=eval o X.env:=by rfl)
    (hfew:((backTo cpos (starEach (e::es) X.env)).all (fun x=>!x.1) && (backToKw cpos (keywordEach [] X.env)).all (fun x=>x.1.isSome)
      && decide ((e::es).length+([]:List Keyword).length+(if ([]:List Keyword).isEmpty then 0 else 1)<30))=true:=by rfl)
    (hline:(apos.endLine == cpos.line)=true:=by rfl) (hs:starEach (e::es) X.env=(false,eval e X.env)::starEach es X.env:=by rfl) (hplain:(backTo cpos (starEach es X.env)).any (·.1)=false:=by rfl) :
    PE X (.Call (.Attribute o name apos) (e::es) [] cpos) (tBM X.K T r to t):=by
  intro pins s σ H Q I h
  refine wpAny_Call_method_late hbase hfew hline rfl (thn (ho pins s σ H _ I h) fun v s1 ⟨x,H1,I1,r1,ty,q1⟩=>?_)
  obtain ⟨h1,h2⟩:=tyV_is I1 r1 ty
  refine ⟨T,id,pa,slot,hty,h1,h2,?_⟩
  have hA:=ha cpos pins s1 σ H1 _ I1 q1
  rw [hs] at hA ⊢
  refine Calls.callWith_builtin (by show (false || (backTo cpos (starEach es X.env)).any (·.1))=false;rw [hplain] <;> rfl) (Calls.evalArgs_plain ?_)
  exact thn hA fun us s2 ⟨vs,H2,I2,r2,q2⟩=>hm pins s2 σ H2 x vs v us Q I2 r1 r2 q2
end
end L2
namespace L2
open PySem PySem.Spec PyProof.Rows
def MtM (X:Cx) (id:String) (r:V→List V→Hp→VK→Prop):Prop :=
  ∀ (pins:List (Addr × Obj)) (s:Shared) (σ:St) (H:Hp) (x:V) (xs:List V) (v:Value) (us:List Value) (Q:VK),Inv X pins σ H s→RelV x v→Vals xs us→r x xs H Q →
    wpAny (model X.prog X.w) X.A (call (.builtin id) (v::us)) (EP X pins σ Q) X.xe s
theorem Vals.one:∀ {x:V} {us:List Value},Vals [x] us→∃ u,us=[u]∧RelV x u
  | _,_,.cons r .nil=>⟨_,rfl,r⟩
theorem Vals.zero:∀ {us:List Value},Vals [] us→us=[]
  | _,.nil=>rfl
theorem Vals.dropLast {xs:List V} {us:List Value} (h:Vals xs us):Vals xs.dropLast us.dropLast:=by
  induction h with
  | nil=>exact .nil
  | cons r t ih =>
    cases t with
    | nil=>exact .nil
    | cons q t'=>exact .cons r ih
theorem erase_last {α:Type} (l:List α):l.eraseIdx (l.length - 1)=l.dropLast:=by
  induction l with
  | nil=>rfl
  | cons a r ih =>
    cases r with
    | nil=>rfl
    | cons b r =>
      have e:(a::b::r).length - 1=((b::r).length - 1)+1:=by
        have h1:(a::b::r).length=r.length+2:=rfl
        have h2:(b::r).length=r.length+1:=rfl
        omega
      rw [e,List.eraseIdx_cons_succ,ih]
      all_goals rfl
section
variable {X:Cx} {pins:List (Addr × Obj)} {σ:St} {H:Hp} {s:Shared} {l b:Addr} {xs ys zs:List V}
theorem Inv.lset {its its' : List Value} {n:Nat} {f:Array Value→Array Value} {t' : Nat} (I:Inv X pins σ H s) (hH:H l=some (.lst xs))
    (e:s.heap.get? l=some { cls:=.type "list",data:=.seq its.toArray n }) (hf:f its.toArray=its'.toArray) (hv:Vals ys its') (hz:ys.length≤sizeLine) :
    Inv X pins σ (upd H l (.lst ys)) { s with heap:=s.heap.update l (Obj.mapSeq f),toks:=t' }:=by
  have q:=PySem.IsL.update e f
  rw [hf] at q
  refine I.write (x:=l) (e:=l) (by rw [hH];exact trivial) (.inl rfl) (fun b' u hb hu=>(Heap.get?_update_other s.heap (Obj.mapSeq f) (Ne.symm hb)).trans hu) ⟨_,q⟩ ?_
  exact ⟨hz,its',_,hv,q⟩
theorem Inv.lnew {its:List Value} {t' : Nat} (I:Inv X pins σ H s) (hv:Vals ys its) (hz:ys.length≤sizeLine) :
    Inv X pins σ (upd H s.heap.objs.size (.lst ys)) { s with heap:=s.heap.push { cls:=.type "list",data:=.seq its.toArray },toks:=t' } :=
  I.laid (fun _ _ q=>Heap.get?_push_of_some _ q) (Nat.le_refl _) ⟨hz,its,0,hv,Heap.get?_push_size _ rfl⟩
theorem Inv.fresh (I:Inv X pins σ H s):H s.heap.objs.size=none:=I.hok.fresh (Nat.le_refl _)
theorem Inv.lstM (I:Inv X pins σ H s) (hH:H l=some (.lst xs)):xs.length≤sizeLine∧∃ (its:List Value) (n:Nat),Vals xs its∧xs.length=its.length∧s.heap.get? l=some { cls:=.type "list",data:=.seq its.toArray n }:=by
  obtain ⟨z,its,n,r,e⟩:=I.hok l _ hH
  exact ⟨z,its,n,r,r.length,e⟩
theorem notLongL {n:Nat} (h:n≤sizeLine):Builtin.List.listTooLong n=false:=by
  unfold Builtin.List.listTooLong
  exact decide_eq_false (by omega)
end
section
variable {X:Cx}
def rAppend:V→List V→Hp→VK→Prop:=fun x vs H Q=>∃ l xs y,x=.ref l∧vs=[y]∧H l=some (.lst xs)∧xs.length<sizeLine∧Q .non (upd H l (.lst (xs++[y])))
theorem mt_append:MtM X "list.append" rAppend:=by
  intro pins s σ H x vs v us Q I rx rv h
  obtain ⟨l,xs,y,rfl,rfl,hH,hz,q⟩:=h
  cases rx
  obtain ⟨u,rfl,ru⟩:=rv.one
  obtain ⟨z,its,n,r,hl,e⟩:=I.lstM hH
  refine call_meets F.slot_list_append ⟨_,e,rfl⟩ F.entry_list_append (F.args_list_append_2 _ _) (PySem.list_append l its.toArray n u (by rw [List.size_toArray];omega)) ⟨e,?_⟩
  refine ⟨.non,_,I.lset (its':=its++[u]) hH e (by simp) (r.append (.cons ru .nil)) ?_,rfl,q⟩
  rw [List.length_append,List.length_singleton]
  omega
def rExtend:V→List V→Hp→VK→Prop:=fun x vs H Q=>∃ l b xs zs,x=.ref l∧vs=[.ref b]∧H l=some (.lst xs)∧H b=some (.lst zs)∧xs.length+zs.length≤sizeLine∧Q .non (upd H l (.lst (xs++zs)))
theorem mt_extend:MtM X "list.extend" rExtend:=by
  intro pins s σ H x vs v us Q I rx rv h
  obtain ⟨l,b,xs,zs,rfl,rfl,hH,hB,hz,q⟩:=h
  cases rx
  obtain ⟨u,rfl,ru⟩:=rv.one
  cases ru
  obtain ⟨z,its,n,r,hl,e⟩:=I.lstM hH
  obtain ⟨z2,its2,n2,r2,hl2,e2⟩:=I.lstM hB
  have hsz:its.toArray.size+its2.toArray.size≤sizeLine:=by rw [List.size_toArray,List.size_toArray];omega
  have hlong:¬ (!its.toArray.isEmpty && Builtin.List.listTooLong (its.toArray.size+its2.toArray.size))=true:=by
    rw [notLongL hsz,Bool.and_false]
    exact Bool.false_ne_true
  refine call_meets F.slot_list_extend ⟨_,e,rfl⟩ F.entry_list_extend (F.args_list_extend_2 _ _)
    (AutoSeq1.list_extend_list_list_0 l its.toArray n b its2.toArray n2 hlong (by rw [List.size_toArray];omega) (by omega)) ⟨e,e2,?_⟩
  refine ⟨.non,_,I.lset (its':=its++its2) hH e (by simp) (r.append r2) ?_,rfl,q⟩
  rw [List.length_append]
  omega
def rPop:V→List V→Hp→VK→Prop:=fun x vs H Q=>∃ l xs y,x=.ref l∧vs=[]∧H l=some (.lst xs)∧xs[xs.length - 1]?=some y∧Q y (upd H l (.lst xs.dropLast))
theorem mt_pop:MtM X "list.pop" rPop:=by
  intro pins s σ H x vs v us Q I rx rv h
  obtain ⟨l,xs,y,rfl,rfl,hH,hy,q⟩:=h
  cases rx
  have hus:=rv.zero
  subst hus
  obtain ⟨z,its,n,r,hl,e⟩:=I.lstM hH
  obtain ⟨u,hu,ru⟩:=r.get hy
  have hy' : its.toArray[its.toArray.size - 1]?=some u:=by
    show its.toArray[its.length - 1]?=some u
    rw [← Array.getElem?_toList,← hl]
    exact hu
  refine call_meets F.slot_list_pop ⟨_,e,rfl⟩ F.entry_list_pop (F.args_list_pop_1 _) (MeetsSeq.list_pop_last l its.toArray n u hy' (by rw [List.size_toArray];omega)) ⟨e,?_⟩
  refine ⟨y,_,I.lset (its':=its.dropLast) hH e ?_ r.dropLast ?_,ru,q⟩
  · show its.toArray.eraseIdxIfInBounds (its.toArray.size - 1)=its.dropLast.toArray
    rw [List.size_toArray,List.eraseIdxIfInBounds_toArray,erase_last]
  · rw [List.length_dropLast]
    omega
def rCat:R2:=fun x y H Q=>∃ l b xs zs,x=.ref l∧y=.ref b∧H l=some (.lst xs)∧H b=some (.lst zs)∧xs.length+zs.length≤sizeLine∧∀ p,H p=none→Q (.ref p) (upd H p (.lst (xs++zs)))
theorem op_cat:OpR X (binaryOp .Add) rCat:=by
  intro pins s σ H x y v u Q I rx ry h
  obtain ⟨l,b,xs,zs,rfl,rfl,hH,hB,hz,q⟩:=h
  cases rx
  cases ry
  obtain ⟨z,its,n,r,hl,e⟩:=I.lstM hH
  obtain ⟨z2,its2,n2,r2,hl2,e2⟩:=I.lstM hB
  refine PySem.P.add_list e e2 ?_ (by rw [List.size_toArray,List.size_toArray];omega)
  have ea:its.toArray++its2.toArray=(its++its2).toArray:=by simp
  rw [ea]
  exact ⟨.ref _,_,I.lnew (t':=s.toks) (r.append r2) (by rw [List.length_append];omega),rfl,q _ I.fresh⟩
end
section
variable {prog:Program} {w:World} {A:Around} {E:Value→Shared→Prop} {s:Shared}
set_option maxRecDepth 100000 in
end
section
variable {X:Cx}
end
end L2
namespace L2
open PySem PySem.Spec PyProof.Rows
theorem Vals.ints:∀ {ns:List Int} {us:List Value},Vals (ns.map V.int) us→IntsAre us ns
  | [],us,h=>by
    rw [List.map_nil] at h
    cases h
    exact IntsAre.nil
  | n::ns,us,h=>by
    rw [List.map_cons] at h
    cases h with
    | cons r t =>
      obtain ⟨k,rfl⟩:=r
      exact IntsAre.cons n k (Vals.ints t)
theorem vals_of_ints:∀ {us:List Value} {ns:List Int},IntsAre us ns→Vals (ns.map V.int) us
  | _,_,.nil=>by rw [List.map_nil];exact Paired.nil
  | _,_,.cons n t h=>by rw [List.map_cons];exact Paired.cons (show RelV (V.int n) (Value.int n t) from ⟨t,rfl⟩) (vals_of_ints h)
theorem Vals.ref1 {a:Addr} {us:List Value} (r:Vals [V.ref a] us):us=[Value.ref a]:=by
  cases r with
  | cons r t =>
    cases t
    cases r
    rfl
section
variable {prog:Program} {w:World} {A:Around} {E:Value→Shared→Prop} {s:Shared} {l:Addr} {its:List Value} {ns:List Int} {Q:Value→Shared→Prop}
end
section
variable {X:Cx}
end
section
variable {X:Cx}
end
section
variable {X:Cx}
end
section
variable {X:Cx}
end
mutual
inductive Dp (K:PySem.W.Frag) (H:Hp):V→PyData→Prop
  | non:Dp K H .non .none
  | bl (b:Bool):Dp K H (.bl b) (.bool b)
  | int (i:Int):Dp K H (.int i) (.int i)
  | str (x:Str):Dp K H (.str x) (.str x)
  | lst {a:Addr} {xs:List V} {ds:List PyData}:SqL K H a xs→DpAll K H xs ds→Dp K H (.ref a) (.list ds)
  | tup {a:Addr} {xs:List V} {ds:List PyData}:SqT K H a xs→DpAll K H xs ds→Dp K H (.ref a) (.tuple ds)
inductive DpAll (K:PySem.W.Frag) (H:Hp):List V→List PyData→Prop
  | nil:DpAll K H [] []
  | cons {v:V} {vs:List V} {d:PyData} {ds:List PyData}:Dp K H v d→DpAll K H vs ds→DpAll K H (v::vs) (d::ds)
end
section
variable {X:Cx} {pins:List (Addr × Obj)} {σ:St} {H:Hp} {s:Shared}
mutual
theorem Dp.reads (I:Inv X pins σ H s):∀ (d:PyData) (v:V) (u:Value),Dp X.K H v d→RelV v u→∃ as,Reads s.heap u d as
  | .none,_,_,h,r=>by
    cases h
    cases r
    exact ⟨_,Reads.none⟩
  | .bool b,_,_,h,r=>by
    cases h
    cases r
    exact ⟨_,Reads.bool b⟩
  | .int i,_,_,h,r=>by
    cases h
    obtain ⟨t,rfl⟩:=r
    exact ⟨_,Reads.int i t⟩
  | .str x,_,_,h,r=>by
    cases h
    obtain ⟨t,rfl⟩:=r
    exact ⟨_,Reads.str x t⟩
  | .list ds,_,_,h,r=>by
    cases h with
    | lst hs ha =>
      cases r
      obtain ⟨its,rv,⟨o,n,ho,hc,_,hd⟩,_⟩:=I.list hs
      obtain ⟨as,hr⟩:=Dp.readsAll I ds _ its ha rv
      exact ⟨_,Reads.list ho hc hd hr⟩
  | .tuple ds,_,_,h,r=>by
    cases h with
    | tup hs ha =>
      cases r
      obtain ⟨its,rv,⟨o,ho,hc,n,hd⟩,_⟩:=I.tuple hs
      obtain ⟨as,hr⟩:=Dp.readsAll I ds _ its ha rv
      exact ⟨_,Reads.tuple ho hc hd hr⟩
  | .dict _,_,_,h,_=>by cases h
theorem Dp.readsAll (I:Inv X pins σ H s):∀ (ds:List PyData) (vs:List V) (us:List Value),DpAll X.K H vs ds→Vals vs us→∃ as,ReadsAll s.heap us ds as
  | [],_,_,h,r=>by
    cases h
    cases r
    exact ⟨_,ReadsAll.nil⟩
  | d::ds,_,_,h,r=>by
    cases h with
    | cons h1 h2 =>
      cases r with
      | cons r1 r2 =>
        obtain ⟨as,q1⟩:=Dp.reads I d _ _ h1 r1
        obtain ⟨bs,q2⟩:=Dp.readsAll I ds _ _ h2 r2
        exact ⟨_,ReadsAll.cons q1 q2⟩
end
end
section
variable {X:Cx}
def rEqD (K:PySem.W.Frag):R2:=fun x y H Q=>∃ d e,Dp K H x d∧Dp K H y e∧SeqAt.shaped d=true∧SeqAt.shaped e=true∧Q (.bl (PyData.eqv d e)) H
theorem op_eqD (hu:X.A.units+64<cLine):OpR X (compareOp .Eq) (rEqD X.K):=by
  intro pins s σ H x y v u Q I rx ry h
  obtain ⟨d,e,hd,he,sd,se,q⟩:=h
  obtain ⟨as,r1⟩:=Dp.reads I d x v hd rx
  obtain ⟨bs,r2⟩:=Dp.reads I e y u he ry
  exact SeqAt.compareEq_shaped r1 r2 sd se hu ⟨.bl _,H,I,rfl,q⟩
end
end L2
namespace L2
open PySem PySem.Spec PyProof.Rows
abbrev CellAt (h:Heap) (c:Addr) (v:Option Value):Prop:=h.IsCell c v
def relS (scope sc:Scope):Scope :=
  { scope with names:=scope.names.map fun (n,k)=>if (k == .free && sc.kind == .function && sc.names.lookup n == some .cell) then (n,.cell) else (n,k) }
def cloFrom (cells:List (Str × Addr)):List (Str × NameKind)→List (Str × Addr)→List (Str × Addr)
  | [],acc=>acc
  | (n,k)::r,acc=>if k == .free then cloFrom cells r ((n,(cells.lookup n).getD 0)::acc) else cloFrom cells r acc
theorem closure_loop (env:Env) (f:Str × NameKind→List (Str × Addr)→Sem (ForInStep (List (Str × Addr))))
    (hf:∀ n k c,f (n,k) c=if k == .free then (do let a ← cellOf env n;pure (.yield ((n,a)::c))) else pure (.yield c)) :
    ∀ (names:List (Str × NameKind)) (acc:List (Str × Addr)),(∀ y∈names,y.2=.free→∃ c,env.cells.lookup y.1=some c)→forIn names acc f=pure (cloFrom env.cells names acc)
  | [],acc,_=>by rw [List.forIn_nil];rfl
  | (n,k)::r,acc,h=>by
    rw [List.forIn_cons,hf]
    have ih:=fun acc=>closure_loop env f hf r acc fun y hy=>h y (List.mem_cons_of_mem _ hy)
    unfold cloFrom
    by_cases hk:(k == NameKind.free)=true
    · rw [if_pos hk,if_pos hk]
      obtain ⟨c,hc⟩:=h (n,k) List.mem_cons_self (by simpa using hk)
      have e:cellOf env n=pure c:=by unfold cellOf;rw [hc]
      rw [e]
      have e2:(env.cells.lookup n).getD 0=c:=by rw [hc];rfl
      rw [e2]
      exact ih _
    · rw [if_neg hk,if_neg hk]
      exact ih _
theorem closure_ok {scope:Scope} {env:Env} (h:∀ y∈scope.names,y.2=.free→∃ c,env.cells.lookup y.1=some c):closureFor scope env=pure (cloFrom env.cells scope.names []):=by
  simp only [closureFor]
  rw [closure_loop env _ (fun n k c=>rfl) scope.names [] h]
  rfl
theorem mem_lookup {α:Type}:∀ {l:List (Str × α)} {n:Str} {c:α},(n,c)∈l→∃ c',l.lookup n=some c'
  | (k,v)::r,n,c,h=>by
    rw [List.lookup_cons]
    cases hb:n == k with
    | true=>exact ⟨_,rfl⟩
    | false =>
      rcases List.mem_cons.mp h with e | h
      · cases e;simp at hb
      · exact mem_lookup h
theorem cloFrom_mem {cells:List (Str × Addr)}:∀ {names:List (Str × NameKind)} {acc:List (Str × Addr)} {n:Str} {c:Addr},(n,c)∈cloFrom cells names acc→(n,c)∈acc∨((n,.free)∈names∧c=(cells.lookup n).getD 0)
  | [],_,_,_,h=>.inl h
  | (m,k)::r,acc,n,c,h=>by
    unfold cloFrom at h
    split at h
    · rename_i hk
      have hk:k=.free:=by simpa using hk
      rcases cloFrom_mem h with h | ⟨h1,h2⟩
      · rcases List.mem_cons.mp h with e | h
        · cases e;exact .inr ⟨hk ▸ List.mem_cons_self,rfl⟩
        · exact .inl h
      · exact .inr ⟨List.mem_cons_of_mem _ h1,h2⟩
    · rcases cloFrom_mem h with h | ⟨h1,h2⟩
      · exact .inl h
      · exact .inr ⟨List.mem_cons_of_mem _ h1,h2⟩
theorem cloFrom_acc {cells:List (Str × Addr)}:∀ {names:List (Str × NameKind)} {acc:List (Str × Addr)} {p:Str × Addr},p∈acc→p∈cloFrom cells names acc
  | [],_,_,h=>h
  | (m,k)::r,acc,p,h=>by
    unfold cloFrom
    split
    · exact cloFrom_acc (List.mem_cons_of_mem _ h)
    · exact cloFrom_acc h
theorem cloFrom_has {cells:List (Str × Addr)}:∀ {names:List (Str × NameKind)} {acc:List (Str × Addr)} {n:Str},(n,.free)∈names→(n,(cells.lookup n).getD 0)∈cloFrom cells names acc
  | (m,k)::r,acc,n,h=>by
    unfold cloFrom
    rcases List.mem_cons.mp h with e | h
    · cases e
      exact cloFrom_acc List.mem_cons_self
    · split
      · exact cloFrom_has h
      · exact cloFrom_has h
theorem cells_mem:∀ {names:List (Str × NameKind)} {h:Heap} {acc:List (Str × Addr)} {x:Str} {c:Addr},(x,c)∈cellsFrom h.objs.size names acc →
    (x,c)∈acc∨((x,.cell)∈names∧h.objs.size≤c∧CellAt (pushCells h names) c none)
  | [],_,_,_,_,h=>.inl h
  | (n,k)::r,h,acc,x,c,hm=>by
    unfold cellsFrom at hm
    unfold pushCells
    split at hm
    · rename_i hk
      rw [if_pos hk]
      have hk:k=.cell:=by simpa using hk
      rw [← Heap.size_push h { cls:=.type "cell",data:=.cell none }] at hm
      rcases cells_mem hm with hm | ⟨h1,h2,h3⟩
      · rcases List.mem_cons.mp hm with e | hm
        · cases e
          exact .inr ⟨hk ▸ List.mem_cons_self,Nat.le_refl _,_,pushCells_keeps r _ _ _ (Heap.get?_push_size _ rfl),rfl⟩
        · exact .inl hm
      · rw [Heap.size_push] at h2
        exact .inr ⟨List.mem_cons_of_mem _ h1,Nat.le_of_succ_le h2,h3⟩
    · rename_i hk
      rw [if_neg hk]
      rcases cells_mem hm with hm | ⟨h1,h2,h3⟩
      · exact .inl hm
      · exact .inr ⟨List.mem_cons_of_mem _ h1,h2,h3⟩
theorem cells_acc:∀ {names:List (Str × NameKind)} {n:Nat} {acc:List (Str × Addr)} {p:Str × Addr},p∈acc→p∈cellsFrom n names acc
  | [],_,_,_,h=>h
  | (m,k)::r,n,acc,p,h=>by
    unfold cellsFrom
    split
    · exact cells_acc (List.mem_cons_of_mem _ h)
    · exact cells_acc h
theorem cells_has:∀ {names:List (Str × NameKind)} {n:Nat} {acc:List (Str × Addr)} {x:Str},(x,.cell)∈names→∃ c,(x,c)∈cellsFrom n names acc
  | (m,k)::r,n,acc,x,h=>by
    unfold cellsFrom
    rcases List.mem_cons.mp h with e | h
    · cases e
      exact ⟨n,cells_acc List.mem_cons_self⟩
    · split
      · exact cells_has h
      · exact cells_has h
theorem cells_inj:∀ {names:List (Str × NameKind)} {h:Heap} {acc:List (Str × Addr)} {x y:Str} {c:Addr},(∀ p∈acc,p.2<h.objs.size)→(∀ x y c,(x,c)∈acc→(y,c)∈acc→x=y) →
    (x,c)∈cellsFrom h.objs.size names acc→(y,c)∈cellsFrom h.objs.size names acc→x=y
  | [],_,_,_,_,_,_,hi,h1,h2=>hi _ _ _ h1 h2
  | (n,k)::r,h,acc,x,y,c,hl,hi,h1,h2=>by
    unfold cellsFrom at h1 h2
    split at h1
    · rename_i hk
      rw [if_pos hk] at h2
      rw [← Heap.size_push h { cls:=.type "cell",data:=.cell none }] at h1 h2
      refine cells_inj (h:=h.push _) (fun p hp=>?_) (fun x y c a b=>?_) h1 h2
      · rw [Heap.size_push]
        rcases List.mem_cons.mp hp with rfl | hp
        · exact Nat.lt_succ_self _
        · exact Nat.lt_succ_of_lt (hl p hp)
      · rcases List.mem_cons.mp a with e | a <;> rcases List.mem_cons.mp b with e' | b
        · cases e;cases e';rfl
        · cases e;exact absurd (hl _ b) (Nat.lt_irrefl _)
        · cases e';exact absurd (hl _ a) (Nat.lt_irrefl _)
        · exact hi _ _ _ a b
    · rename_i hk
      rw [if_neg hk] at h2
      exact cells_inj hl hi h1 h2
theorem newEnv_comp {M:Model} {A:Around} {E:Value→Shared→Prop} {s:Shared} {scope:Scope} {globals:Addr} {closure:List (Str × Addr)} {qual:Str} {func:Option Addr} {code:Value} {around:Env} {builtins:Addr} {Q:Env→Shared→Prop}
    (h:Q (newEnv scope s.heap.objs.size globals (cellsFrom (s.heap.objs.size+1) scope.names closure) qual func code (some around) builtins)
      { s with heap:=pushCells (s.heap.push { cls:=.type "dict",data:=.dict #[] }) scope.names }) :
    wpAny M A (newFunctionEnv scope globals closure [] qual func code (some around) builtins) Q E s:=by
  simp only [newFunctionEnv,Option.isSome_some,if_true]
  refine wpAny_bind (wpAny_alloc ?_)
  refine wpAny_bind (wpAny_layCells _ (fun n k c=>rfl) scope.names closure _ _ ?_)
  rw [show ({ s with heap:=s.heap.push { cls:=.type "dict",data:=.dict #[] } }:Shared).heap.objs.size=s.heap.objs.size+1 from Heap.size_push ..]
  rw [List.forIn_nil]
  exact wpAny_bind (wpAny_pure (wpAny_pure h))
theorem lookup_relS {sc:Scope}:∀ {names:List (Str × NameKind)} {x:Str} {k:NameKind},
    (names.map fun (n,k)=>if (k == NameKind.free && sc.kind == .function && sc.names.lookup n == some .cell) then (n,NameKind.cell) else (n,k)).lookup x=some k →
    ∃ k',names.lookup x=some k'∧(k=k'∨(k'=.free∧k=.cell))
  | [],_,_,h=>by simp at h
  | (n,k₀)::r,x,k,h=>by
    have ih:=@lookup_relS sc r x k
    have h' : List.lookup x ((if (k₀ == NameKind.free && sc.kind == .function && sc.names.lookup n == some .cell)=true then (n,NameKind.cell) else (n,k₀))::(r.map _))=some k:=h
    cases hx:x == n with
    | true =>
      simp only [List.lookup_cons,hx]
      by_cases hc:(k₀ == NameKind.free && sc.kind == .function && sc.names.lookup n == some .cell)=true
      · rw [if_pos hc] at h'
        simp only [List.lookup_cons,hx] at h'
        cases h'
        simp only [Bool.and_eq_true,beq_iff_eq] at hc
        exact ⟨k₀,rfl,.inr ⟨hc.1.1,rfl⟩⟩
      · rw [if_neg hc] at h'
        simp only [List.lookup_cons,hx] at h'
        cases h'
        exact ⟨_,rfl,.inl rfl⟩
    | false =>
      simp only [List.lookup_cons,hx]
      by_cases hc:(k₀ == NameKind.free && sc.kind == .function && sc.names.lookup n == some .cell)=true
      · rw [if_pos hc] at h'
        simp only [List.lookup_cons,hx] at h'
        exact ih h'
      · rw [if_neg hc] at h'
        simp only [List.lookup_cons,hx] at h'
        exact ih h'
structure BlkOk (N:List Str) (sc scope:Scope) (own:List (Str × Nat)):Prop where
  kind:scope.kind=.function
  uniq:∀ y∈scope.names,scope.names.lookup y.1=some y.2
  ix:∀ p∈own,N[p.2]?=some p.1
  free:∀ y∈scope.names,y.2=.free→sc.names.lookup y.1=some .cell∨sc.names.lookup y.1=some .free
  own:∀ y∈scope.names,y.2=.local∨y.2=.cell→y.1∈own.map (·.1)∨y.1∉N
def wipe (σ:St):List Nat→St
  | []=>σ
  | v::vs=>(wipe σ vs).set v none
theorem wipe_length (σ:St):∀ vs:List Nat,(wipe σ vs).length=σ.length
  | []=>rfl
  | v::vs=>by unfold wipe;rw [List.length_set,wipe_length σ vs]
theorem wipe_some {σ:St} {i:Nat} {x:V}:∀ {vs:List Nat},(wipe σ vs)[i]?=some (some x)→σ[i]?=some (some x)∧i∉vs
  | [],h=>⟨h,by simp⟩
  | v::vs,h=>by
    unfold wipe at h
    by_cases hi:v=i
    · subst hi
      by_cases hv:v<(wipe σ vs).length
      · rw [List.getElem?_set_self hv] at h;cases h
      · rw [List.getElem?_eq_none (by simpa using hv)] at h;cases h
    · rw [List.getElem?_set_ne hi] at h
      obtain ⟨h1,h2⟩:=wipe_some h
      exact ⟨h1,by simp only [List.mem_cons,not_or];exact ⟨fun e=>hi e.symm,h2⟩⟩
abbrev Cx.blk (X:Cx) (s:Shared) (H:Hp) (scope:Scope) (cenv:Env) (fp:List Addr):Cx:={ X with s_0:=s,H_0:=H,env:=cenv,outer:=X.stack,ex:=fp,fn:=fun x=>scope.names.lookup x == some .cell,pn:=[],xe:=fun _ _=>False }
section
variable {X:Cx} {pins:List (Addr × Obj)} {σ:St} {H:Hp} {s:Shared}
theorem block_start {scope:Scope} {own:List (Str × Nat)} {fp:List Addr} (I:Inv X pins σ H s) (ok:BlkOk X.N X.env.scope scope own) (hN:X.N.Nodup) (hfp:∀ b∈fp,FpOk X pins H b∧b<s.heap.objs.size) :
    Inv (X.blk s H scope (compEnvC scope (cellsFrom (s.heap.objs.size+1) scope.names (cloFrom X.env.cells scope.names [])) s.heap.objs.size X.env) fp) [] (wipe σ (own.map (·.2))) H { s with heap:=pushCells (s.heap.push { cls:=.type "dict",data:=.dict #[] }) scope.names }:=by
  have hfree:∀ y∈scope.names,y.2=.free→∃ c,X.env.cells.lookup y.1=some c:=fun y hy e=>by
    rcases ok.free y hy e with k | k
    · exact I.ok.has _ (.inl k)
    · exact I.ok.has _ (.inr k)
  generalize hcenv:compEnvC scope (cellsFrom (s.heap.objs.size+1) scope.names (cloFrom X.env.cells scope.names [])) s.heap.objs.size X.env=cenv
  have kp:∀ b o,s.heap.get? b=some o→(pushCells (s.heap.push { cls:=.type "dict",data:=.dict #[] }) scope.names).get? b=some o:=fun b o e=>pushCells_keeps _ _ _ _ (Heap.get?_push_of_some _ e)
  have hL:cenv.locals=s.heap.objs.size:=by rw [← hcenv];rfl
  have hcl:cenv.cells=cellsFrom (s.heap.objs.size+1) scope.names (cloFrom X.env.cells scope.names []):=by rw [← hcenv];rfl
  have hsc:cenv.scope=relS scope X.env.scope:=by rw [← hcenv];rfl
  rw [← Heap.size_push s.heap { cls:=.type "dict",data:=.dict #[] }] at hcl
  have cm:∀ {y c},(y,c)∈cloFrom X.env.cells scope.names []→X.env.cells.lookup y=some c∧c<s.heap.objs.size:=fun {y c} hm=>by
    rcases cloFrom_mem hm with hm | ⟨h1,rfl⟩
    · cases hm
    · obtain ⟨c,hc⟩:=hfree _ h1 rfl
      rw [hc]
      obtain ⟨w,z⟩:=I.cell _ _ hc
      exact ⟨rfl,z.lt⟩
  have mem:∀ {y c},cenv.cells.lookup y=some c→(X.env.cells.lookup y=some c∧c<s.heap.objs.size)∨(s.heap.objs.size+1≤c∧CellAt (pushCells (s.heap.push { cls:=.type "dict",data:=.dict #[] }) scope.names) c none):=fun {y c} e=>by
    rw [hcl] at e
    rcases cells_mem (PySem.mem_of_lookup e) with hm | ⟨_,h2,h3⟩
    · exact .inl (cm hm)
    · rw [Heap.size_push] at h2;exact .inr ⟨h2,h3⟩
  have look:∀ {y},scope.names.lookup y=some .free→∃ c,cenv.cells.lookup y=some c∧X.env.cells.lookup y=some c:=fun {y} hl=>by
    have hy:(y,NameKind.free)∈scope.names:=PySem.mem_of_lookup hl
    obtain ⟨c',e'⟩:=mem_lookup (cells_acc (names:=scope.names) (n:=(s.heap.push { cls:=.type "dict",data:=.dict #[] }).objs.size) (cloFrom_has (cells:=X.env.cells) (acc:=[]) hy))
    rw [← hcl] at e'
    refine ⟨c',e',?_⟩
    rw [hcl] at e'
    rcases cells_mem (PySem.mem_of_lookup e') with hm | ⟨h1,_,_⟩
    · exact (cm hm).1
    · have:=ok.uniq _ h1
      rw [hl] at this;cases this
  have okB:(X.blk s H scope cenv fp).Ok:=by
    refine ⟨I.ok.mod,by show cenv.scope.kind=_;rw [hsc];exact ok.kind,by show cenv.globals=_;rw [← hcenv];exact I.ok.glob,by show cenv.builtins=_;rw [← hcenv];exact I.ok.blt,by show s.heap.objs.size≤cenv.locals;rw [hL];exact Nat.le_refl _,
      fun y z c e1 e2=>?_,fun y hy=>?_,fun y c z e=>?_,I.ok.hd,I.ok.frames,.inl rfl,fun b hb=>⟨?_,fun y c e z=>?_⟩,I.bs,Nat.le_trans I.ok.bsz I.sz,fun b o e hb=>?_,fun b hb z=>?_,I.stack,I.stkFree⟩
    · have e1:cenv.cells.lookup y=some c:=e1
      have e2:cenv.cells.lookup z=some c:=e2
      rw [hcl] at e1 e2
      refine cells_inj (fun p hp=>?_) (fun y z c a b=>I.ok.inj y z c (cm a).1 (cm b).1) (PySem.mem_of_lookup e1) (PySem.mem_of_lookup e2)
      rw [Heap.size_push]
      exact Nat.lt_succ_of_lt (cm (y:=p.1) (c:=p.2) hp).2
    · show ∃ c,cenv.cells.lookup y=some c
      have key:∀ k,cenv.kindOf y=some k→(k=.cell∨k=.free)→∃ c,cenv.cells.lookup y=some c:=fun k hk hk'=>by
        unfold Env.kindOf at hk
        rw [hsc] at hk
        obtain ⟨k',e,r⟩:=lookup_relS hk
        have:k'=.cell∨k'=.free:=by
          rcases r with rfl | ⟨rfl,_⟩
          · exact hk'
          · exact .inr rfl
        rcases this with rfl | rfl
        · obtain ⟨c,hm⟩:=cells_has (n:=(s.heap.push { cls:=.type "dict",data:=.dict #[] }).objs.size) (acc:=cloFrom X.env.cells scope.names []) (PySem.mem_of_lookup e)
          obtain ⟨c',e'⟩:=mem_lookup hm
          exact ⟨c',by rw [hcl];exact e'⟩
        · obtain ⟨c,h1,_⟩:=look e
          exact ⟨c,h1⟩
      rcases hy with hy | hy
      · exact key _ hy (.inl rfl)
      · exact key _ hy (.inr rfl)
    · have z:(scope.names.lookup y == some NameKind.cell)=true:=z
      have z:scope.names.lookup y=some .cell:=by simpa using z
      have e:cenv.cells.lookup y=some c:=e
      rw [hcl] at e
      rcases cells_mem (PySem.mem_of_lookup e) with hm | ⟨_,h2,_⟩
      · rcases cloFrom_mem hm with hm | ⟨h1,_⟩
        · cases hm
        · have q:=ok.uniq _ h1
          rw [z] at q;cases q
      · rw [Heap.size_push] at h2
        exact Nat.le_of_succ_le h2
    · show b≠cenv.locals
      rw [hL];exact Nat.ne_of_lt (hfp b hb).2
    · have e:cenv.cells.lookup y=some c:=e
      rcases mem e with ⟨h1,_⟩ | ⟨h1,_⟩
      · exact (hfp b hb).1.2.2.2.2.1 y c h1 z
      · have h2:s.heap.objs.size+1≤b:=by rw [← z];exact h1
        exact absurd (Nat.lt_of_lt_of_le (hfp b hb).2 (Nat.le_of_succ_le h2)) (Nat.lt_irrefl _)
    · rcases (hfp b hb).1.2.2.2.1 with z | z
      · exact I.ok.noex b o e z
      · exact absurd (Nat.lt_of_lt_of_le (Heap.lt_size e) (Nat.le_trans I.ok.bsz z)) (Nat.lt_irrefl _)
    · rcases List.mem_cons.mp (I.stkSub b z) with z | z
      · exact (hfp b hb).1.2.1 z
      · exact (hfp b hb).1.2.2.1 z
  refine ⟨okB,rfl,I.bare,Un.kept kp,⟨fun _=>none,?_,fun i y av e1 e2 e3=>?_⟩,fun y c e=>?_,?_,fun y c e=>?_,fun p hp=>?_,I.hok.kept kp,by rw [wipe_length];exact I.len⟩
  · show Heap.Ns _ cenv.locals _
    rw [hL]
    exact Heap.Ns.keeps (Heap.Ns.new ..) fun b o e=>pushCells_keeps _ _ _ _ e
  · obtain ⟨e2,hne⟩:=wipe_some e2
    have hfr:scope.names.lookup y=some .free∧(cenv.kindOf y=some .cell∨cenv.kindOf y=some .free):=by
      have key:∀ k,cenv.scope.names.lookup y=some k→k=.local∨k=.cell∨k=.free→scope.names.lookup y=some .free∧(cenv.kindOf y=some .cell∨cenv.kindOf y=some .free):=fun k hk hk'=>by
        have hk0:=hk
        rw [hsc] at hk
        obtain ⟨k',e,r⟩:=lookup_relS hk
        have no:¬ (k'=.local∨k'=.cell):=fun hh=>by
          rcases ok.own _ (PySem.mem_of_lookup e) hh with e' | e'
          · obtain ⟨p,hp,hpy⟩:=List.mem_map.mp e'
            have e3:=ok.ix p hp
            have:p.1=y:=hpy
            rw [this] at e3
            exact hne (List.mem_map.mpr ⟨p,hp,nodup_ix hN e3 e1⟩)
          · exact e' (List.mem_of_getElem? e1)
        rcases r with rfl | ⟨rfl,rfl⟩
        · rcases hk' with rfl | rfl | rfl
          · exact absurd (.inl rfl) no
          · exact absurd (.inr rfl) no
          · exact ⟨e,.inr hk0⟩
        · exact ⟨e,.inl hk0⟩
      have e3:Vis cenv.scope y:=e3
      rcases e3 with e3 | e3 | e3
      · exact key _ e3 (.inl rfl)
      · exact key _ e3 (.inr (.inl rfl))
      · exact key _ e3 (.inr (.inr rfl))
    obtain ⟨m,hn,hl⟩:=I.loc
    have hvis:Vis X.env.scope y:=(ok.free _ (PySem.mem_of_lookup hfr.1) rfl).elim (fun k=>.inr (.inl k)) (fun k=>.inr (.inr k))
    obtain ⟨w,r,q⟩:=hl i y av e1 e2 hvis
    refine ⟨w,r,.inr ⟨hfr.2,?_⟩⟩
    obtain ⟨c,h1,h2⟩:=look hfr.1
    rcases q with ⟨k,_⟩ | ⟨_,c',e',z⟩
    · have k:X.env.scope.names.lookup y=some .local:=k
      rcases ok.free _ (PySem.mem_of_lookup hfr.1) rfl with k' | k' <;> rw [show X.env.scope.names.lookup y=_ from k'] at k <;> cases k
    · rw [h2] at e';cases e'
      exact ⟨c,h1,z.keeps kp⟩
  · have e:cenv.cells.lookup y=some c:=e
    rcases mem e with ⟨h1,_⟩ | ⟨_,z⟩
    · obtain ⟨w,z⟩:=I.cell y c h1
      exact ⟨w,z.keeps kp⟩
    · exact ⟨_,z⟩
  · show H cenv.locals=none
    rw [hL];exact I.hok.fresh (Nat.le_refl _)
  · have e:cenv.cells.lookup y=some c:=e
    rcases mem e with ⟨h1,_⟩ | ⟨h1,_⟩
    · exact I.freeC y c h1
    · exact I.hok.fresh (Nat.le_of_succ_le h1)
  · exact absurd (show p∈([]:List (Addr × Obj))++[] from hp) (by simp)
theorem app_ok {E:Value→Shared→Prop} {D:Addr} {xs:List V} {y:V} {v:Value} {Q:Value→Shared→Prop} (I:Inv X pins σ H s) (hD:H D=some (.lst xs)) (hz:xs.length<sizeLine) (r:RelV y v)
    (h:∀ s',Inv X pins σ (upd H D (.lst (xs++[y]))) s'→Q .none s'):wpAny (model X.prog X.w) X.A (call (.builtin "list.append") [.ref D,v]) Q E s:=by
  obtain ⟨hz',its,n,ri,e⟩:=I.hok D _ hD
  have hl:=ri.length
  refine append_at (hsz:=by rw [List.size_toArray];omega) e fun h' sb ho'=>?_
  refine h { s with heap:=h' } (I.write (t':=s.toks) (by rw [hD];trivial) (.inl rfl) (fun b u hb q=>(sb.2 b hb).trans q) ⟨_,ho'⟩ ⟨by rw [List.length_append];exact hz,its++[v],n+1,ri.append (.cons r .nil),?_⟩)
  rw [ho']
  simp
def PTs (X:Cx) (ifs:List Expr) (t:TT):Prop :=
  ∀ (pins:List (Addr × Obj)) (s:Shared) (σ:St) (H:Hp) (Q:Bool→Hp→Prop),Inv X pins σ H s→t σ H Q →
    wpAny (model X.prog X.w) X.A (forIn ifs true fun c r=>if r=true then do let ok ← isTrue c X.env (eval c X.env);pure (ForInStep.yield ok) else pure (ForInStep.yield r)) (TP X pins σ Q) X.xe s
def tYes:TT:=fun _ H Q=>Q true H
theorem pts_nil:PTs X [] tYes:=fun _ _ _ H _ I h=>wpAny_tests_nil ⟨H,I,h⟩
theorem pts_one {c:Expr} {t:TT} (h:PT X c t):PTs X [c] t:=fun pins s σ H Q I hw=>wpAny_tests_one (h pins s σ H Q I hw)
end
theorem thnF {α:Type} {t:Sem α} {Q Q' : α→Shared→Prop} {M:Model} {A:Around} {E:Value→Shared→Prop} {s:Shared} (h:wpAny M A t Q (fun _ _=>False) s) (hQ:∀ a s,Q a s→Q' a s):wpAny M A t Q' E s:=wpAny_mono h hQ fun _ _ z=>False.elim z
theorem compLoop_any {prog:Program} {w:World} {A:Around} {R:Result→Shared→Prop} {s:Shared} {elt target iter:Expr} {ifs:List Expr} {scope:Scope} {pos:Pos} {it acc:Value} {env:Env} (I:Nat→Shared→Prop)
    (turn:∀ n s,I n s→wpAny (model prog w) A (pyNext it) (fun r s₁=>match r with
      | none=>R (.ok .next) s₁
      | some v=>wpAny (model prog w) A (letOwnedTupleGo target it v) (fun _ s₁'=>wpAny (model prog w) A (assign target env v) (fun _ s₂ =>
          wpAny (model prog w) A (forIn ifs true fun c r=>if r=true then do let ok ← isTrue c env (eval c env);pure (ForInStep.yield ok) else pure (ForInStep.yield r)) (fun ok s₃ =>
            if ok=true then wpAny (model prog w) A (eval elt env) (fun x s₄ =>
              wpAny (model prog w) A (call (.builtin "list.append") [acc,x]) (fun _ s₅=>∃ m,m<n∧I m s₅) (notedBy (model prog w) A env fun e s'=>R (.error e) s') s₄) (notedBy (model prog w) A env fun e s'=>R (.error e) s') s₃
            else ∃ m,m<n∧I m s₃) (notedBy (model prog w) A env fun e s'=>R (.error e) s') s₂) (notedBy (model prog w) A env fun e s'=>R (.error e) s') s₁') (notedBy (model prog w) A env fun e s'=>R (.error e) s') s₁) (notedBy (model prog w) A env fun e s'=>R (.error e) s') s)
    (n:Nat) (h:I n s) :
    codeAny (model prog w) A (.compLoop (.ListComp elt [⟨target,iter,ifs,0⟩] scope pos) 0 it acc env) R s:=by
  refine codeAny_loop rfl I (fun n s hI=>?_) n h
  show wpAny _ A ((compTurn (.ListComp elt [⟨target,iter,ifs,0⟩] scope pos) 0 it acc env).onRaise (fun x=>do noteFrame x env;theTreesLotGoes x)) _ _ s
  refine wpAny_noted ?_
  rw [compTurn_list]
  refine wpAny_bind (wpAny_standAt (wpAny_bind (wpAny_mono (turn n s hI) (fun r s₁ h₁=>?_) fun _ _ h'=>h')))
  cases r with
  | none=>exact wpAny_pure h₁
  | some v =>
    refine wpAny_bind (wpAny_mono h₁ (fun _ s₁' h₁'=>?_) fun _ _ h'=>h')
    refine wpAny_bind (wpAny_mono h₁' (fun _ s₂ h₂=>wpAny_bind (wpAny_mono h₂ (fun ok s₃ h₃=>?_) fun _ _ h'=>h')) fun _ _ h'=>h')
    cases ok with
    | false=>exact wpAny_pure ⟨rfl,h₃⟩
    | true =>
      exact wpAny_bind (wpAny_bind (wpAny_mono h₃ (fun x s₄ h₄=>wpAny_bind (wpAny_mono h₄ (fun _ s₅ h₅=>wpAny_pure (wpAny_pure ⟨rfl,h₅⟩)) fun _ _ h'=>h')) fun _ _ h'=>h'))
section
variable {X:Cx}
def tLc (wi:TI) (g:TG) (tt:TT) (te:TE) (vs:List Nat):TE:=fun σ H Q=>wi σ H fun J H1=>∀ D,H1 D=none→∃ W:Nat→Nat→Hp→Prop,(∃ m,W 0 m (upd H1 D (.lst [])))∧∀ i m H,W i m H →
  (J.stop i H∧Q (.ref D) H)∨(J.go i H∧∃ Nx:Hp→Prop,(∀ H',Nx H'→∃ m',m'<m∧W (i+1) m' H')∧∀ x H',J.yld i H x H'→g x (wipe σ vs) H' fun σ2 H2=>wipe σ2 vs=wipe σ vs∧tt σ2 H2 fun b H3 =>
    if b=true then te σ2 H3 fun y H4=>∃ acc,H4 D=some (.lst acc)∧acc.length<sizeLine∧Nx (upd H4 D (.lst (acc++[y]))) else Nx H3)
theorem lc_core {pins:List (Addr × Obj)} {s:Shared} {σ:St} {H:Hp} {Q:VK} {elt tg iter:Expr} {ifs:List Expr} {scope:Scope} {own:List (Str × Nat)} {pos pos' : Pos} {wi:TI} {g:TG} {tt:TT} {te:TE} {use:Option (Value→Sem Unit)} {Qf:Value→Shared→Prop}
    (hc:X.calm=true) (hN:X.N.Nodup) (I:Inv X pins σ H s) (hi:PI X tg iter wi) (ok:BlkOk X.N X.env.scope scope own)
    (hg:∀ (s:Shared) (H:Hp) (C:Addr) (cl:List (Str × Addr)) (fp:List Addr),PG (X.blk s H scope (compEnvC scope cl C X.env) fp) tg g) (ht:∀ (s:Shared) (H:Hp) (C:Addr) (cl:List (Str × Addr)) (fp:List Addr),PTs (X.blk s H scope (compEnvC scope cl C X.env) fp) ifs tt)
    (he:∀ (s:Shared) (H:Hp) (C:Addr) (cl:List (Str × Addr)) (fp:List Addr),PE (X.blk s H scope (compEnvC scope cl C X.env) fp) elt te) (hs:∀ x,foldedSetIterable iter X.env x=pure x)
    (h:tLc wi g tt te (own.map (·.2)) σ H Q)
    (hRR:∀ D C s' m H',Inv X pins σ H' s'→Q (.ref D) H'→s'.heap.Ns C m→FpOk X pins H' C→compPost (model X.prog X.w) X.A X.xe use Qf (.ref D) C (.ok .next) s') :
    wpAny (model X.prog X.w) X.A (comprehension (.ListComp elt [⟨tg,iter,ifs,0⟩] scope pos) scope X.env pos' (newList []) false (eval iter X.env) use) Qf X.xe s:=by
  have hfree:∀ y∈scope.names,y.2=.free→∃ c,X.env.cells.lookup y.1=some c:=fun y hy e=>by
    rcases ok.free y hy e with k | k
    · exact I.ok.has _ (.inl k)
    · exact I.ok.has _ (.inr k)
  refine wpAny_comprehension_free (use:=use) rfl hs (closure_ok hfree) ok.kind (fun y hy e=>by rw [ok.uniq y hy,e])
    (thn (hi pins s σ H _ I h) fun xv s1 hx=>thn hx fun itv s2 h2=>?_)
  obtain ⟨it,fp,tn,J,H2,e,I2,T,st2,f2,q⟩:=h2
  subst e
  refine wpAny_newObj_type (newEnv_comp ?_) (by show 0≤sizeLine;decide)
  generalize hD:s2.heap.objs.size=D
  have hDn:H2 D=none:=I2.hok.fresh (Nat.le_of_eq hD)
  obtain ⟨W,⟨m0,w0⟩,turn⟩:=q D hDn
  generalize hs3:({ s2 with heap:=s2.heap.push { cls:=.type "list",data:=.seq ([]:List Value).toArray } }:Shared)=s3
  have I3:Inv X pins σ (upd H2 D (.lst [])) s3:=by
    rw [← hs3]
    refine I2.laid (t':=s2.toks) (fun b o e=>Heap.get?_push_of_some _ e) (Nat.le_of_eq hD) ⟨Nat.zero_le _,[],0,.nil,?_⟩
    rw [← hD]
    exact Heap.get?_push_size _ rfl
  have h3:s3.heap=s2.heap.push { cls:=.type "list",data:=.seq ([]:List Value).toArray }:=by rw [← hs3]
  have sz:∀ b∈fp,b<s2.heap.objs.size:=fun b hb=>by
    obtain ⟨o,e,_⟩:=T.obj _ _ st2 b hb
    exact Heap.lt_size e
  have f3:∀ b∈fp,FpOk X pins (upd H2 D (.lst [])) b∧b<s3.heap.objs.size:=fun b hb=>by
    have hlt:=sz b hb
    refine ⟨⟨?_,(f2 b hb).2⟩,by rw [h3,Heap.size_push];exact Nat.lt_succ_of_lt hlt⟩
    rw [upd_ne (by rw [← hD];exact Nat.ne_of_lt hlt)]
    exact (f2 b hb).1
  have st3:tn 0 s3.heap:=T.keep _ _ _ st2 fun b _ o e=>by rw [h3];exact Heap.get?_push_of_some _ e
  have I4:=block_start I3 ok hN f3
  have pg:=hg s3 (upd H2 D (.lst [])) s3.heap.objs.size (cellsFrom (s3.heap.objs.size+1) scope.names (cloFrom X.env.cells scope.names [])) fp
  have pt:=ht s3 (upd H2 D (.lst [])) s3.heap.objs.size (cellsFrom (s3.heap.objs.size+1) scope.names (cloFrom X.env.cells scope.names [])) fp
  have pe:=he s3 (upd H2 D (.lst [])) s3.heap.objs.size (cellsFrom (s3.heap.objs.size+1) scope.names (cloFrom X.env.cells scope.names [])) fp
  show codeAny _ _ (.compStart (.ListComp elt [⟨tg,iter,ifs,0⟩] scope pos) 0 (.ref it) (.ref D) (compEnvC scope (cellsFrom (s3.heap.objs.size+1) scope.names (cloFrom X.env.cells scope.names [])) s3.heap.objs.size X.env)) (compPost (model X.prog X.w) X.A X.xe use Qf (.ref D) s3.heap.objs.size) { s3 with heap:=pushCells (s3.heap.push { cls:=.type "dict",data:=.dict #[] }) scope.names }
  have nfp:∀ b∈fp,(upd H2 D (.lst [])) b=none:=fun b hb=>(f3 b hb).1.1
  generalize hce:compEnvC scope (cellsFrom (s3.heap.objs.size+1) scope.names (cloFrom X.env.cells scope.names [])) s3.heap.objs.size X.env=ce at I4 pg pt pe ⊢
  have cL:ce.locals=s3.heap.objs.size:=by subst hce;rfl
  generalize hH3:upd H2 D (.lst [])=H3 at I3 I4 pg pt pe w0 nfp f3
  generalize hs4:({ s3 with heap:=pushCells (s3.heap.push { cls:=.type "dict",data:=.dict #[] }) scope.names }:Shared)=s4 at I4 ⊢
  have st4:tn 0 s4.heap:=T.keep _ _ _ st3 fun b _ o e=>by rw [← hs4];exact pushCells_keeps _ _ _ _ (Heap.get?_push_of_some _ e)
  have stat:∀ {σ' : St} {H' : Hp} {s' : Shared},Inv (X.blk s3 H3 scope ce fp) [] σ' H' s'→(∀ b∈fp,H' b=none)→∀ b∈fp,FpOk (X.blk s3 H3 scope ce fp) [] H' b:=fun {σ' H' s'} I' hn b hb =>
    ⟨hn b hb,(I'.ok.exf b hb).1,I'.ok.exfs b hb,.inl hb,fun x c e=>(I'.ok.exf b hb).2 x c e,fun p hp=>absurd (show p∈([]:List (Addr × Obj))++[] from hp) (by simp)⟩
  have loop:codeAny (model X.prog X.w) X.A (.compLoop (.ListComp elt [⟨tg,iter,ifs,0⟩] scope pos) 0 (.ref it) (.ref D) ce) (compPost (model X.prog X.w) X.A X.xe use Qf (.ref D) s3.heap.objs.size) s4:=by
    refine compLoop_any (fun n s'=>∃ i H',Inv (X.blk s3 H3 scope ce fp) [] (wipe σ (own.map (·.2))) H' s'∧tn i s'.heap∧(∀ b∈fp,H' b=none)∧W i n H') ?_ m0 ⟨0,H3,I4,st4,nfp,w0⟩
    rintro n s5 ⟨i,H5,I5,st5,n5,w5⟩
    rcases turn i n H5 w5 with ⟨stop,qq⟩ | ⟨go,Nx,hNx,step⟩
    · have td:=T.done (X.blk s3 H3 scope ce fp) rfl rfl rfl hc i [] s5 _ H5 (fun _ _=>False) I5 (stat I5 n5) st5 stop
      refine thnF td fun r s6 ⟨hr,I6⟩=>?_
      subst hr
      have I7:Inv X pins σ H5 s6:=I3.call' (ch:=fp) I6.os I6.base I6.hok I6.bare fun b hb=>⟨(f3 b hb).1.2.2.2.1,(f3 b hb).1.2.1,(f3 b hb).1.2.2.2.2.1,(f3 b hb).1.2.2.2.2.2⟩
      have nC:H5 s3.heap.objs.size=none:=by
        have z:H5 ce.locals=none:=I6.free
        rw [cL] at z
        exact z
      obtain ⟨m,hn,_⟩:=I6.loc
      have hn:s6.heap.Ns ce.locals m:=hn
      rw [cL] at hn
      exact hRR D s3.heap.objs.size s6 m H5 I7 qq hn (I3.fpOk (Nat.le_refl _) nC)
    · have ti:=T.item (X.blk s3 H3 scope ce fp) rfl rfl rfl hc i [] s5 _ H5 (fun _ _=>False) I5 (stat I5 n5) st5 go
      refine thnF ti fun r s6 ⟨u,hr,h6⟩=>?_
      subst hr
      refine thnF h6 fun _ s7 ⟨x,H7,I7,r7,y7,st7,n7⟩=>?_
      have I7':=I7.pinned (stat I7 n7) (T.obj _ _ st7)
      refine thnF (pg _ s7 _ H7 x u _ I7' r7 (step x H7 y7)) fun _ s8 ⟨σ8,H8,I8,hw8,q8⟩=>?_
      refine thnF (pt _ s8 σ8 H8 _ I8 q8) fun b s9 ⟨H9,I9,q9⟩=>?_
      have fin:∀ {s' : Shared} {H' : Hp},Inv (X.blk s3 H3 scope ce fp) ([]++pinsAt fp s7.heap) σ8 H' s'→Nx H'→∃ m,m<n∧∃ i H',Inv (X.blk s3 H3 scope ce fp) [] (wipe σ (own.map (·.2))) H' s'∧tn i s'.heap∧(∀ b∈fp,H' b=none)∧W i m H':=fun {s' H'} I' nx=>by
        obtain ⟨m',hm,w'⟩:=hNx H' nx
        have pin' : ∀ b∈fp,∀ o,s7.heap.get? b=some o→s'.heap.get? b=some o∧H' b=none:=fun b hb o e =>
          let z:=I'.pin (b,o) (List.mem_append_right _ (List.mem_append_right _ (mem_pinsAt hb e)))
          ⟨z.1,z.2.1⟩
        have hl:(wipe σ (own.map (·.2))).length=σ8.length:=by rw [← hw8,wipe_length]
        refine ⟨m',hm,i+1,H',(I'.unpinned (pins:=[])).weak hl (fun j v e=>?_),T.keep _ _ _ st7 fun b hb o e=>(pin' b hb o e).1,fun b hb=>?_,w'⟩
        · rw [← hw8] at e
          exact (wipe_some e).1
        · obtain ⟨o,e,_⟩:=T.obj _ _ st7 b hb
          exact (pin' b hb o e).2
      cases b with
      | false =>
        simp only [Bool.false_eq_true,if_false] at q9 ⊢
        exact fin I9 q9
      | true =>
        simp only [if_true] at q9 ⊢
        refine thnF (pe _ s9 σ8 H9 _ I9 q9) fun z s10 ⟨yv,H10,I10,r10,acc,hD10,hz10,nx⟩=>?_
        exact app_ok (X:=X.blk s3 H3 scope ce fp) I10 hD10 hz10 r10 fun s11 I11=>fin I11 nx
  exact codeAny_compStart_list loop (T.self X.A 0 _ _ _ st4 loop)
theorem pe_lc {elt tg iter:Expr} {ifs:List Expr} {scope:Scope} {own:List (Str × Nat)} {pos:Pos} {wi:TI} {g:TG} {tt:TT} {te:TE} (hc:X.calm=true) (hN:X.N.Nodup) (hi:PI X tg iter wi) (ok:BlkOk X.N X.env.scope scope own)
    (hg:∀ (s:Shared) (H:Hp) (C:Addr) (cl:List (Str × Addr)) (fp:List Addr),PG (X.blk s H scope (compEnvC scope cl C X.env) fp) tg g) (ht:∀ (s:Shared) (H:Hp) (C:Addr) (cl:List (Str × Addr)) (fp:List Addr),PTs (X.blk s H scope (compEnvC scope cl C X.env) fp) ifs tt)
    (he:∀ (s:Shared) (H:Hp) (C:Addr) (cl:List (Str × Addr)) (fp:List Addr),PE (X.blk s H scope (compEnvC scope cl C X.env) fp) elt te) (hs:∀ x,foldedSetIterable iter X.env x=pure x:=by intro _;rfl) :
    PE X (.ListComp elt [⟨tg,iter,ifs,0⟩] scope pos) (tLc wi g tt te (own.map (·.2))):=by
  intro pins s σ H Q I h
  rw [eval_ListComp]
  refine lc_core hc hN I hi ok hg ht he hs h fun D C s' m H' I' q hn f=>⟨m,hn,fun h'' sb=>?_⟩
  obtain ⟨f0,f1,f2,f3,f4,f5⟩:=f
  exact ⟨.ref D,H',I'.turned (t':=s'.toks) (fun b o hb e=>(sb.2 b hb).trans e) f0 f1 f3 f4 f5,rfl,q⟩
theorem ps_setLc {i:Nat} {y:Str} {py:Pos} {elt tg iter:Expr} {ifs:List Expr} {scope:Scope} {own:List (Str × Nat)} {pos spos:Pos} {wi:TI} {g:TG} {tt:TT} {te:TE} (hc:X.calm=true) (hN:X.N.Nodup) (hy:X.N[i]?=some y) (hyl:X.env.scope.names.lookup y=some .local)
    (hsw:swapsWith (.ListComp elt [⟨tg,iter,ifs,0⟩] scope pos) (some (.Name y py)) spos.line X.env=pure true) (hi:PI X tg iter wi) (ok:BlkOk X.N X.env.scope scope own)
    (hg:∀ (s:Shared) (H:Hp) (C:Addr) (cl:List (Str × Addr)) (fp:List Addr),PG (X.blk s H scope (compEnvC scope cl C X.env) fp) tg g) (ht:∀ (s:Shared) (H:Hp) (C:Addr) (cl:List (Str × Addr)) (fp:List Addr),PTs (X.blk s H scope (compEnvC scope cl C X.env) fp) ifs tt)
    (he:∀ (s:Shared) (H:Hp) (C:Addr) (cl:List (Str × Addr)) (fp:List Addr),PE (X.blk s H scope (compEnvC scope cl C X.env) fp) elt te) (hs:∀ x,foldedSetIterable iter X.env x=pure x:=by intro _;rfl) :
    PS X (.Assign [.Name y py] (.ListComp elt [⟨tg,iter,ifs,0⟩] scope pos) spos) (tAsg (tLc wi g tt te (own.map (·.2))) (gName i)):=by
  intro pins s σ H D I h
  rw [exec_Assign_Name_used _ _ _ _ hsw]
  refine wpAny_bind (wpAny_standAt (wpAny_bind ?_))
  show wpAny _ X.A (do let _ ← comprehension (.ListComp elt [⟨tg,iter,ifs,0⟩] scope pos) scope X.env (firstIterPos [⟨tg,iter,ifs,0⟩] pos) (newList []) false (eval iter X.env) (some (assign (.Name y py) X.env))) _ _ s
  have h:tLc wi g tt te (own.map (·.2)) σ H (fun x H1=>gName i x σ H1 D.nx):=h
  refine wpAny_bind (thn (lc_core (Qf:=fun _ s'=>SP X pins D .next s') hc hN I hi ok hg ht he hs h fun L C s' m H' I' q hn f=>?_) fun _ s' hq=>wpAny_pure (wpAny_pure hq))
  show wpAny _ _ (assign (.Name y py) X.env (.ref L)) _ _ _
  refine wpAny_assign_Name (store_ok2 (v:=V.ref L) I' hN hy (.inl hyl) rfl (fun s2 I2 ⟨a,sb,ha⟩=>?_) (.inr hyl))
  obtain ⟨f0,f1,f2,f3,f4,f5⟩:=f
  have haC:C≠a:=by
    rcases ha with z | z
    · rw [z];exact f1
    · exact fun e=>f4 y a z e.symm
  refine ⟨m,hn.sameBut sb haC,fun h3 sb3=>?_⟩
  exact ⟨_,H',I2.turned (t':=s2.toks) (fun b o hb e=>(sb3.2 b hb).trans e) f0 f1 f3 f4 f5,q⟩
theorem sw_true {elt:Expr} {gs:List Comprehension} {scope:Scope} {pos py:Pos} {y:Str} {l:Nat} {env:Env} (hk:env.scope.kind=.function) (hy:env.scope.names.lookup y=some .local) (hl:(py.line == pos.line)=true)
    (ha:(scope.names.any fun (n,k)=>n == y && (k == .local || k == .cell))=false):swapsWith (.ListComp elt gs scope pos) (some (.Name y py)) l env=pure true:=by
  have ky:env.kindOf y=some .local:=hy
  have hb:env.blockKind=.function:=by unfold Env.blockKind;rw [hk];rfl
  unfold swapsWith
  simp only [hb,ky,ha,Expr.pos,hl]
  rfl
end
theorem lc_range {lo:Int} {n:Nat} {g:TG} {tt:TT} {te:TE} {vs:List Nat} {σ:St} {H1:Hp} {D:Addr} {Qd:Hp→Prop} (Pv:Nat→Hp→Prop) (h0:Pv 0 (upd H1 D (.lst [])))
    (hs:∀ i H,i<n→Pv i H→g (.int (lo+i)) (wipe σ vs) H fun σ2 H2=>wipe σ2 vs=wipe σ vs∧tt σ2 H2 fun b H3 =>
      if b=true then te σ2 H3 fun y H4=>∃ acc,H4 D=some (.lst acc)∧acc.length<sizeLine∧Pv (i+1) (upd H4 D (.lst (acc++[y]))) else Pv (i+1) H3) (hd:∀ H,Pv n H→Qd H) :
    ∃ W:Nat→Nat→Hp→Prop,(∃ m,W 0 m (upd H1 D (.lst [])))∧∀ i m H,W i m H →
      ((Itr lo n).stop i H∧Qd H)∨((Itr lo n).go i H∧∃ Nx:Hp→Prop,(∀ H',Nx H'→∃ m',m'<m∧W (i+1) m' H')∧∀ x H',(Itr lo n).yld i H x H'→g x (wipe σ vs) H' fun σ2 H2=>wipe σ2 vs=wipe σ vs∧tt σ2 H2 fun b H3 =>
        if b=true then te σ2 H3 fun y H4=>∃ acc,H4 D=some (.lst acc)∧acc.length<sizeLine∧Nx (upd H4 D (.lst (acc++[y]))) else Nx H3):=by
  refine ⟨fun i m H=>m=n - i∧i≤n∧Pv i H,⟨n,by simp,Nat.zero_le _,h0⟩,?_⟩
  rintro i m H ⟨rfl,hi,p⟩
  by_cases hlt:i<n
  · refine .inr ⟨hlt,Pv (i+1),fun H' p'=>⟨n - (i+1),by omega,rfl,hlt,p'⟩,fun x H' y=>?_⟩
    obtain ⟨e,y⟩:=y
    subst e y
    exact hs i _ hlt p
  · have e:i=n:=by omega
    subst e
    exact .inl ⟨Nat.le_refl _,hd H p⟩
theorem lc_list {K:PySem.W.Frag} {a:Addr} {xs:List V} {g:TG} {tt:TT} {te:TE} {vs:List Nat} {σ:St} {H1:Hp} {D:Addr} {Qd:Hp→Prop} (Pv:Nat→Hp→Prop) (h0:Pv 0 (upd H1 D (.lst []))) (hl:∀ i H,i≤xs.length→Pv i H→SqL K H a xs)
    (hs:∀ i x H,xs[i]?=some x→Pv i H→g x (wipe σ vs) H fun σ2 H2=>wipe σ2 vs=wipe σ vs∧tt σ2 H2 fun b H3 =>
      if b=true then te σ2 H3 fun y H4=>∃ acc,H4 D=some (.lst acc)∧acc.length<sizeLine∧Pv (i+1) (upd H4 D (.lst (acc++[y]))) else Pv (i+1) H3) (hd:∀ H,Pv xs.length H→Qd H) :
    ∃ W:Nat→Nat→Hp→Prop,(∃ m,W 0 m (upd H1 D (.lst [])))∧∀ i m H,W i m H →
      ((Itl K a).stop i H∧Qd H)∨((Itl K a).go i H∧∃ Nx:Hp→Prop,(∀ H',Nx H'→∃ m',m'<m∧W (i+1) m' H')∧∀ x H',(Itl K a).yld i H x H'→g x (wipe σ vs) H' fun σ2 H2=>wipe σ2 vs=wipe σ vs∧tt σ2 H2 fun b H3 =>
        if b=true then te σ2 H3 fun y H4=>∃ acc,H4 D=some (.lst acc)∧acc.length<sizeLine∧Nx (upd H4 D (.lst (acc++[y]))) else Nx H3):=by
  refine ⟨fun i m H=>m=xs.length - i∧i≤xs.length∧Pv i H,⟨xs.length,by simp,Nat.zero_le _,h0⟩,?_⟩
  rintro i m H ⟨rfl,hi,p⟩
  have q:=hl i H hi p
  by_cases hlt:i<xs.length
  · refine .inr ⟨⟨xs,xs[i],q,by simp [hlt]⟩,Pv (i+1),fun H' p'=>⟨xs.length - (i+1),by omega,rfl,hlt,p'⟩,fun x H' y=>?_⟩
    obtain ⟨e,y⟩:=y
    subst e
    exact hs i x _ (y xs q) p
  · have e:i=xs.length:=by omega
    subst e
    exact .inl ⟨⟨xs,q,Nat.le_refl _⟩,hd H p⟩
def blkC (N:List Str) (sc scope:Scope) (own:List (Str × Nat)):Bool :=
  (match scope.kind with | .function=>true | _=>false) && (scope.names.all fun y=>decide (scope.names.lookup y.1=some y.2)) && (own.all fun p=>decide (N[p.2]?=some p.1)) &&
    (scope.names.all fun y=>match y.2 with
      | .free=>(match sc.names.lookup y.1 with | some .cell=>true | some .free=>true | _=>false)
      | .local=>decide (y.1∈own.map (·.1)) || decide (y.1∉N)
      | .cell=>decide (y.1∈own.map (·.1)) || decide (y.1∉N)
      | _=>true)
theorem blkOk_by {N:List Str} {sc scope:Scope} {own:List (Str × Nat)} (h:blkC N sc scope own=true):BlkOk N sc scope own:=by
  unfold blkC at h
  simp only [Bool.and_eq_true,List.all_eq_true,decide_eq_true_eq] at h
  obtain ⟨⟨⟨h1,h2⟩,h3⟩,h4⟩:=h
  refine ⟨?_,h2,h3,fun y hy e=>?_,fun y hy e=>?_⟩
  · split at h1
    · assumption
    · cases h1
  · have q:=h4 y hy
    simp only [e] at q
    split at q <;> first | exact .inl (by assumption) | exact .inr (by assumption) | cases q
  · have q:=h4 y hy
    rcases e with e | e <;> (simp only [e,Bool.or_eq_true,decide_eq_true_eq] at q;exact q)
end L2
namespace L2
open PySem PySem.Spec PyProof.Rows
section
variable {prog:Program} {w:World} {A:Around} {R:Result→Shared→Prop} {s:Shared} {elt t0 i0 t1 i1:Expr} {ifs0 ifs1:List Expr} {scope:Scope} {pos:Pos} {it acc:Value} {env:Env}
end
section
variable {X:Cx}
end
end L2
namespace L2
open PySem PySem.Spec PyProof.Rows
section
variable {κ:Type} [DecidableEq κ]
def valV (kvs:List (κ × V)) (k:κ):Option V:=(kvs.find? fun kv=>decide (kv.1=k)).map (·.2)
def putK (kvs:List (κ × V)) (k:κ) (v:V):List (κ × V) :=
  if (kvs.any fun kv=>decide (kv.1=k))=true then kvs.map (fun kv=>if kv.1=k then (kv.1,v) else kv) else kvs++[(k,v)]
def dropK (kvs:List (κ × V)) (k:κ):List (κ × V):=kvs.filter fun kv=>decide (kv.1≠k)
theorem valV_pos {p:κ × V} {r:List (κ × V)} {k:κ} (e:p.1=k):valV (p::r) k=some p.2:=by simp [valV,List.find?_cons,e]
theorem valV_neg {p:κ × V} {r:List (κ × V)} {k:κ} (e:¬ p.1=k):valV (p::r) k=valV r k:=by simp [valV,List.find?_cons,e]
theorem valV_any (k:κ):∀ kvs:List (κ × V),(kvs.any fun kv=>decide (kv.1=k))=(valV kvs k).isSome
  | []=>rfl
  | p::r=>by
    rw [List.any_cons]
    by_cases e:p.1=k
    · simp only [valV_pos e,decide_eq_true e,Bool.true_or,Option.isSome_some]
    · rw [valV_neg e,decide_eq_false e,Bool.false_or];exact valV_any k r
theorem valV_map (k j:κ) (y:V):∀ kvs:List (κ × V),valV (kvs.map fun kv=>if kv.1=k then (kv.1,y) else kv) j=(valV kvs j).map fun x=>if j=k then y else x
  | []=>rfl
  | p::r=>by
    have ih:=valV_map k j y r
    rw [List.map_cons]
    by_cases h:p.1=k
    · rw [if_pos h]
      by_cases e:p.1=j
      · rw [valV_pos (p:=(p.1,y)) e,valV_pos e,Option.map_some,if_pos (e.symm.trans h)]
      · rw [valV_neg (p:=(p.1,y)) e,valV_neg e,ih]
    · rw [if_neg h]
      by_cases e:p.1=j
      · rw [valV_pos (p:=p) e,valV_pos e,Option.map_some,if_neg (fun z=>h (e.trans z))]
      · rw [valV_neg (p:=p) e,valV_neg e,ih]
theorem valV_snoc (k j:κ) (y:V):∀ kvs:List (κ × V),valV kvs k=none→valV (kvs++[(k,y)]) j=if j=k then some y else valV kvs j
  | [],_=>by
    by_cases e:k=j
    · rw [if_pos e.symm];exact valV_pos (p:=(k,y)) e
    · rw [if_neg (fun z=>e z.symm)];exact valV_neg (p:=(k,y)) e
  | p::r,hn=>by
    rw [List.cons_append]
    have hk:¬ p.1=k:=fun z=>by rw [valV_pos z] at hn;cases hn
    rw [valV_neg hk] at hn
    have ih:=valV_snoc k j y r hn
    by_cases e:p.1=j
    · rw [valV_pos e,valV_pos e,if_neg (fun z=>hk (e.trans z))]
    · rw [valV_neg e,valV_neg e,ih]
theorem valV_put (kvs:List (κ × V)) (k j:κ) (y:V):valV (putK kvs k y) j=if j=k then some y else valV kvs j:=by
  unfold putK
  by_cases a:(kvs.any fun kv=>decide (kv.1=k))=true
  · rw [if_pos a,valV_map]
    rw [valV_any] at a
    by_cases e:j=k
    · obtain ⟨x,hx⟩:=Option.isSome_iff_exists.mp a
      rw [if_pos e,e,hx,Option.map_some,if_pos rfl]
    · rw [if_neg e]
      cases valV kvs j with
      | none=>rfl
      | some x=>rw [Option.map_some,if_neg e]
  · rw [if_neg a]
    refine valV_snoc k j y kvs ?_
    rw [valV_any] at a
    cases q:valV kvs k with
    | none=>rfl
    | some x=>rw [q] at a;exact (a rfl).elim
theorem length_putK (kvs:List (κ × V)) (k:κ) (v:V):(putK kvs k v).length≤kvs.length+1:=by
  unfold putK
  split
  · rw [List.length_map];omega
  · rw [List.length_append,List.length_cons,List.length_nil];omega
theorem putK_new {kvs:List (κ × V)} {k:κ} (v:V) (h:valV kvs k=none):putK kvs k v=kvs++[(k,v)]:=by
  unfold putK
  rw [valV_any,h]
  exact if_neg (by decide)
theorem RelO.isSome_eq {o:Option V} {u:Option Value} (r:RelO o u):o.isSome=u.isSome:=by
  cases o with
  | none=>cases u with
    | none=>rfl
    | some _=>exact (show False from r).elim
  | some _=>cases u with
    | none=>exact (show False from r).elim
    | some _=>rfl
theorem RelO.getD {o:Option V} {u:Option Value} {d:V} {d' : Value} (r:RelO o u) (rd:RelV d d'):RelV (o.getD d) (u.getD d'):=by
  cases o with
  | none=>cases u with
    | none=>exact rd
    | some _=>exact (show False from r).elim
  | some _=>cases u with
    | none=>exact (show False from r).elim
    | some _=>exact r
theorem KV.val {kvs:List (κ × V)} {vs:List (κ × Value)} (r:KV kvs vs) (k:κ):RelO (valV kvs k) (valueAt vs k):=by
  unfold KV at r
  induction r with
  | nil=>exact True.intro
  | @cons p q ps qs h t ih =>
    obtain ⟨h1,h2⟩:=h
    by_cases e:p.1=k
    · have e' : q.1=k:=h1.symm.trans e
      have b:valueAt (q::qs) k=some q.2:=by simp [valueAt,List.find?_cons,e']
      rw [valV_pos e,b];exact h2
    · have e' : ¬ q.1=k:=fun z=>e (h1.trans z)
      have b:valueAt (q::qs) k=valueAt qs k:=by simp [valueAt,List.find?_cons,e']
      rw [valV_neg e,b];exact ih
theorem KV.any {kvs:List (κ × V)} {vs:List (κ × Value)} (r:KV kvs vs) (k:κ):(kvs.any fun kv=>decide (kv.1=k))=vs.any fun kv=>decide (kv.1=k):=by
  unfold KV at r
  induction r with
  | nil=>rfl
  | cons h t ih=>rw [List.any_cons,List.any_cons,ih,h.1]
theorem KV.repl {kvs:List (κ × V)} {vs:List (κ × Value)} (r:KV kvs vs) (k:κ) {y:V} {u:Value} (ry:RelV y u) :
    KV (kvs.map fun kv=>if kv.1=k then (kv.1,y) else kv) (vs.map fun kv=>if kv.1=k then (kv.1,u) else kv):=by
  unfold KV at r ⊢
  induction r with
  | nil=>exact .nil
  | @cons p q ps qs h t ih =>
    rw [List.map_cons,List.map_cons]
    refine .cons ?_ ih
    obtain ⟨h1,h2⟩:=h
    by_cases e:p.1=k
    · rw [if_pos e,if_pos (h1.symm.trans e)];exact ⟨h1,ry⟩
    · rw [if_neg e,if_neg (fun z=>e (h1.trans z))];exact ⟨h1,h2⟩
theorem KV.put {kvs:List (κ × V)} {vs:List (κ × Value)} (r:KV kvs vs) (k:κ) {y:V} {u:Value} (ry:RelV y u):KV (putK kvs k y) (stored vs k u):=by
  unfold putK stored
  rw [r.any k]
  by_cases e:(vs.any fun kv=>decide (kv.1=k))=true
  · rw [if_pos e,if_pos e];exact r.repl k ry
  · rw [if_neg e,if_neg e];exact Paired.snoc r ⟨rfl,ry⟩
theorem KV.drop {kvs:List (κ × V)} {vs:List (κ × Value)} (r:KV kvs vs) (k:κ):KV (dropK kvs k) (without vs k):=by
  unfold KV at r ⊢
  unfold dropK without
  induction r with
  | nil=>exact .nil
  | @cons p q ps qs h t ih =>
    obtain ⟨h1,h2⟩:=h
    rw [List.filter_cons,List.filter_cons]
    by_cases e:p.1=k
    · have a:¬ decide (p.1≠k)=true:=by simp [e]
      have b:¬ decide (q.1≠k)=true:=by simp [h1.symm.trans e]
      rw [if_neg a,if_neg b];exact ih
    · have e' : ¬ q.1=k:=fun z=>e (h1.trans z)
      have a:decide (p.1≠k)=true:=by simp [e]
      have b:decide (q.1≠k)=true:=by simp [e']
      rw [if_pos a,if_pos b];exact .cons ⟨h1,h2⟩ ih
theorem KV.keys {kvs:List (κ × V)} {vs:List (κ × Value)} (r:KV kvs vs):kvs.map (·.1)=vs.map (·.1):=by
  unfold KV at r
  induction r with
  | nil=>rfl
  | cons h t ih=>rw [List.map_cons,List.map_cons,ih,h.1]
theorem KV.length {kvs:List (κ × V)} {vs:List (κ × Value)} (r:KV kvs vs):kvs.length=vs.length:=Paired.length r
theorem dropK_le (kvs:List (κ × V)) (k:κ):(dropK kvs k).length≤kvs.length:=List.length_filter_le _ _
end
theorem kV_is {P:Program} {w:World} {k:Key} {u:Value} (r:RelV (kV k) u):(mixKind P w).is k u=true:=by
  cases k with
  | inl i=>obtain ⟨t,e⟩:=(show ∃ t,u=Value.int i t from r);subst e;exact mixKind_int P w i t
  | inr x=>obtain ⟨t,e⟩:=(show ∃ t,u=Value.str x t from r);subst e;exact mixKind_str P w x t
theorem items_are {P:Program} {w:World}:∀ {ks:List Key} {us:List Value},Vals (ks.map kV) us→ItemsAre (mixKind P w) ks us
  | [],_,r=>by rw [List.map_nil] at r;cases r;exact .nil
  | k::ks,_,r=>by
    rw [List.map_cons] at r
    cases r with
    | cons h t=>exact .cons (kV_is h) (items_are t)
abbrev KT (H:Hp):List (List Key × V)→List (List Key × Addr × Value)→Prop:=Paired fun p q=>p.1=q.1∧H q.2.1=some (.tup (p.1.map kV))∧RelV p.2 q.2.2
theorem KT.val {H:Hp} {kvs:List (List Key × V)} {xs:List (List Key × Addr × Value)} (r:KT H kvs xs) (k:List Key):RelO (valV kvs k) ((atKey xs k).map (·.2)):=by
  induction r with
  | nil=>exact True.intro
  | @cons p q ps qs h t ih =>
    obtain ⟨h1,_,h2⟩:=h
    by_cases e:p.1=k
    · have e' : q.1=k:=h1.symm.trans e
      have b:atKey (q::qs) k=some q.2:=by simp [atKey,List.find?_cons,e']
      rw [valV_pos e,b];exact h2
    · have e' : ¬ q.1=k:=fun z=>e (h1.trans z)
      have b:atKey (q::qs) k=atKey qs k:=by simp [atKey,List.find?_cons,e']
      rw [valV_neg e,b];exact ih
theorem KT.repl {H:Hp} {kvs:List (List Key × V)} {xs:List (List Key × Addr × Value)} (r:KT H kvs xs) (k:List Key) {y:V} {u:Value} (ry:RelV y u) :
    KT H (kvs.map fun kv=>if kv.1=k then (kv.1,y) else kv) (xs.map (putAt k u)):=by
  induction r with
  | nil=>exact .nil
  | @cons p q ps qs h t ih =>
    rw [List.map_cons,List.map_cons]
    refine .cons ?_ ih
    obtain ⟨h1,h2,h3⟩:=h
    unfold putAt
    by_cases e:p.1=k
    · rw [if_pos e,if_pos (h1.symm.trans e)];exact ⟨h1,h2,ry⟩
    · rw [if_neg e,if_neg (fun z=>e (h1.trans z))];exact ⟨h1,h2,h3⟩
theorem KT.put {H:Hp} {kvs:List (List Key × V)} {xs:List (List Key × Addr × Value)} (r:KT H kvs xs) (k:List Key) {b:Addr} {y:V} {u:Value} (hb:H b=some (.tup (k.map kV))) (ry:RelV y u) :
    KT H (putK kvs k y) (storedH xs k b u):=by
  have e:(kvs.any fun kv=>decide (kv.1=k))=(atKey xs k).isSome:=by
    rw [valV_any,(r.val k).isSome_eq,Option.isSome_map]
  unfold putK storedH
  rw [e]
  by_cases q:(atKey xs k).isSome=true
  · rw [if_pos q,if_pos q];exact r.repl k ry
  · rw [if_neg q,if_neg q];exact Paired.snoc r ⟨rfl,hb,ry⟩
theorem KT.keeps {H H' : Hp} {kvs:List (List Key × V)} {xs:List (List Key × Addr × Value)} (r:KT H kvs xs) (ht:∀ b ys,H b=some (.tup ys)→H' b=some (.tup ys)):KT H' kvs xs :=
  Paired.mapP r fun _ _ z=>⟨z.1,ht _ _ z.2.1,z.2.2⟩
section
variable {P:Program} {w:World} {H:Hp} {h:Heap} {a:Addr}
theorem rd_of {u:HO} (ok:HOk P w H h) (e:Rd H a u):ObjOk P w H h a u:=e.ok ok
theorem dk_rd {kvs:List (Key × V)} (ok:HOk P w H h) (e:Rd H a (.dK kvs)):kvs.length≤sizeLine∧(a == sysModules)=false∧∃ vs,KV kvs vs∧h.DictOf (mixKind P w) a vs :=
  show ObjOk P w H h a (.dK kvs) from rd_of ok e
theorem dk_of {kvs:List (Key × V)} (ok:HOk P w H h) (e:H a=some (.dK kvs)):kvs.length≤sizeLine∧(a == sysModules)=false∧∃ vs,KV kvs vs∧h.DictOf (mixKind P w) a vs:=dk_rd ok (.inl e)
theorem key_of {ks:List Key} (ok:HOk P w H h) (e:H a=some (.tup (ks.map kV))):(tupleKind (mixKind P w)).is h ks a:=by
  obtain ⟨_,its,r,o,h1,h2,n,h3⟩:=(show ObjOk P w H h a (.tup (ks.map kV)) from ok a _ e)
  exact ⟨o,its.toArray,n,h1,h2,h3,by simpa using items_are r⟩
theorem dt_rd {kvs:List (List Key × V)} (ok:HOk P w H h) (e:Rd H a (.dT kvs)):kvs.length≤sizeLine∧(a == sysModules)=false ∧
    ∃ xs,KT H kvs xs∧h.DictOfH (tupleKind (mixKind P w)) a xs:=by
  obtain ⟨z,y,xs,r,o,es,ep,h1,h2,h3,h4,h5⟩:=(show ObjOk P w H h a (.dT kvs) from rd_of ok e)
  refine ⟨z,y,xs,r,o,es,ep,h1,h2,h3,h4,fun x hx=>?_,h5⟩
  have all:∀ {l:List (List Key × V)} {m:List (List Key × Addr × Value)},KT H l m→∀ x∈m,(tupleKind (mixKind P w)).is h x.1 x.2.1:=by
    intro l m q
    induction q with
    | nil=>intro x hx;exact nomatch hx
    | @cons p q ps qs hq t ih =>
      intro x hx
      rcases List.mem_cons.mp hx with e | hx
      · subst e
        exact key_of ok (by rw [← hq.1];exact hq.2.1)
      · exact ih x hx
  exact all r x hx
theorem dt_of {kvs:List (List Key × V)} (ok:HOk P w H h) (e:H a=some (.dT kvs)):kvs.length≤sizeLine∧(a == sysModules)=false ∧
    ∃ xs,KT H kvs xs∧h.DictOfH (tupleKind (mixKind P w)) a xs:=dt_rd ok (.inl e)
end
def DGet (H:Hp) (a:Addr) (y:V) (r:Option V):Prop :=
  (∃ kvs k,Rd H a (.dK kvs)∧y=kV k∧r=valV kvs k)∨∃ kvs k b,Rd H a (.dT kvs)∧y=.ref b∧H b=some (.tup (k.map kV))∧r=valV kvs k
def DPut (H:Hp) (a:Addr) (y v:V) (H' : Hp):Prop :=
  (∃ kvs k,H a=some (.dK kvs)∧y=kV k∧kvs.length<sizeLine∧H'=upd H a (.dK (putK kvs k v))) ∨
  ∃ kvs k b,H a=some (.dT kvs)∧y=.ref b∧H b=some (.tup (k.map kV))∧kvs.length<sizeLine∧H'=upd H a (.dT (putK kvs k v))
theorem DGet.k {H:Hp} {a:Addr} {kvs:List (Key × V)} {k:Key} (e:H a=some (.dK kvs)):DGet H a (kV k) (valV kvs k):=.inl ⟨kvs,k,.inl e,rfl,rfl⟩
theorem DGet.t {H:Hp} {a b:Addr} {kvs:List (List Key × V)} {k:List Key} (e:H a=some (.dT kvs)) (eb:H b=some (.tup (k.map kV))):DGet H a (.ref b) (valV kvs k):=.inr ⟨kvs,k,b,.inl e,rfl,eb,rfl⟩
theorem DPut.k {H:Hp} {a:Addr} {kvs:List (Key × V)} {k:Key} {v:V} (e:H a=some (.dK kvs)) (hl:kvs.length<sizeLine):DPut H a (kV k) v (upd H a (.dK (putK kvs k v))):=.inl ⟨kvs,k,e,rfl,hl,rfl⟩
theorem DPut.t {H:Hp} {a b:Addr} {kvs:List (List Key × V)} {k:List Key} {v:V} (e:H a=some (.dT kvs)) (eb:H b=some (.tup (k.map kV))) (hl:kvs.length<sizeLine) :
    DPut H a (.ref b) v (upd H a (.dT (putK kvs k v))):=.inr ⟨kvs,k,b,e,rfl,eb,hl,rfl⟩
section
variable {X:Cx} {pins:List (Addr × Obj)} {σ:St} {H:Hp} {s:Shared} {a:Addr} {y v:V} {u r:Value} {o:Option V} {A:Around} {E:Value→Shared→Prop}
theorem Inv.big (I:Inv X pins σ H s):sysModules<s.heap.objs.size:=by
  have h:mainGlobals<s.heap.objs.size:=(I.mod.glob.keeps I.bk).lt
  exact Nat.lt_trans (by decide) h
theorem d_getItem {Q:Value→Shared→Prop} (hu:A.units+1<cLine) (I:Inv X pins σ H s) (g:DGet H a y (some v)) (ry:RelV y u) (h:∀ w' s',Inv X pins σ H s'→RelV v w'→Q w' s') :
    wpAny (model X.prog X.w) A (getItem (.ref a) u) Q E s:=by
  rcases g with ⟨kvs,k,e,ey,l⟩ | ⟨kvs,k,b,e,ey,eb,l⟩
  · subst ey
    obtain ⟨z,hd,vs,rel,dd⟩:=dk_rd I.hok e
    obtain ⟨w',hw,rw'⟩:=RelO.some_of (v:=v) (o:=valueAt vs k) (by rw [l];exact rel.val k)
    exact wpAny_getItem_of (kV_is ry) dd.mapOf hw (h w' _ (I.tok _) rw')
  · subst ey
    cases (show u=Value.ref b from ry)
    obtain ⟨z,hd,xs,rel,dd⟩:=dt_rd I.hok e
    obtain ⟨w',hw,rw'⟩:=RelO.some_of (v:=v) (o:=(atKey xs k).map (·.2)) (by rw [l];exact rel.val k)
    obtain ⟨p,hp,hp2⟩:=Option.map_eq_some_iff.mp hw
    refine wpAny_getItem_heap (tupleKind_room_in1 hu) (key_of I.hok eb) dd hp ?_
    rw [hp2]
    exact h w' _ (I.tok _) rw'
theorem d_in {Q:Value→Shared→Prop} (hu:A.units+1<cLine) (I:Inv X pins σ H s) (g:DGet H a y o) (ry:RelV y u) (h:∀ s',Inv X pins σ H s'→Q (.bool o.isSome) s') :
    wpAny (model X.prog X.w) A (compareOp .In u (.ref a)) Q E s:=by
  rcases g with ⟨kvs,k,e,ey,l⟩ | ⟨kvs,k,b,e,ey,eb,l⟩
  · subst ey
    obtain ⟨z,hd,vs,rel,dd⟩:=dk_rd I.hok e
    refine wpAny_in_of (kV_is ry) hd dd.mapOf ?_
    rw [← (rel.val k).isSome_eq,← l]
    exact h _ (I.tok _)
  · subst ey
    cases (show u=Value.ref b from ry)
    obtain ⟨z,hd,xs,rel,dd⟩:=dt_rd I.hok e
    refine wpAny_in_heap (tupleKind_room_in1 hu) (key_of I.hok eb) hd dd ?_
    have q:=(rel.val k).isSome_eq
    rw [Option.isSome_map] at q
    rw [← q,← l]
    exact h _ (I.tok _)
theorem d_notIn {Q:Value→Shared→Prop} (hu:A.units+1<cLine) (I:Inv X pins σ H s) (g:DGet H a y o) (ry:RelV y u) (h:∀ s',Inv X pins σ H s'→Q (.bool (!o.isSome)) s') :
    wpAny (model X.prog X.w) A (compareOp .NotIn u (.ref a)) Q E s:=by
  rcases g with ⟨kvs,k,e,ey,l⟩ | ⟨kvs,k,b,e,ey,eb,l⟩
  · subst ey
    obtain ⟨z,hd,vs,rel,dd⟩:=dk_rd I.hok e
    refine wpAny_notIn_of (kV_is ry) hd dd.mapOf ?_
    rw [← (rel.val k).isSome_eq,← l]
    exact h _ (I.tok _)
  · subst ey
    cases (show u=Value.ref b from ry)
    obtain ⟨z,hd,xs,rel,dd⟩:=dt_rd I.hok e
    refine wpAny_notIn_heap (tupleKind_room_in1 hu) (key_of I.hok eb) hd dd ?_
    have q:=(rel.val k).isSome_eq
    rw [Option.isSome_map] at q
    rw [← q,← l]
    exact h _ (I.tok _)
theorem d_write {h' : Heap} {t' : Nat} {ob:HO} (I:Inv X pins σ H s) (mu:Mut (H a)) (hs:Heap.SameBut a s.heap h') (he:∃ q,h'.get? a=some q) (new:ObjOk X.prog X.w (upd H a ob) h' a ob) :
    Inv X pins σ (upd H a ob) { s with heap:=h',toks:=t' } :=
  I.write (x:=a) (e:=a) mu (.inl rfl) (fun b q hb z=>(hs.2 b hb).trans z) he new
theorem dk_new {P:Program} {w:World} {H' : Hp} {h' : Heap} {kvs:List (Key × V)} {vs:List (Key × Value)} (z:kvs.length≤sizeLine) (hd:(a == sysModules)=false) (rel:KV kvs vs) (dd:h'.DictOf (mixKind P w) a vs) :
    ObjOk P w H' h' a (.dK kvs):=⟨z,hd,vs,rel,dd⟩
theorem d_setItem {H' : Hp} {Q:Unit→Shared→Prop} (hu:A.units+1<cLine) (I:Inv X pins σ H s) (g:DPut H a y v H') (ry:RelV y u) (rv:RelV v r) (h:∀ s',Inv X pins σ H' s'→Q () s') :
    wpAny (model X.prog X.w) A (setItem (.ref a) u r) Q E s:=by
  rcases g with ⟨kvs,k,e,ey,l,eH⟩ | ⟨kvs,k,b,e,ey,eb,l,eH⟩
  · subst ey eH
    obtain ⟨z,hd,vs,rel,dd⟩:=dk_of I.hok e
    have hz:vs.length≤sizeLine:=by rw [← rel.length];exact z
    have hl:(putK kvs k v).length≤sizeLine:=by have:=length_putK kvs k v;omega
    refine wpAny_setItem_pairs (hsz:=hz) (kV_is ry) dd fun h' dd' hs=>h _ ?_
    have he:∃ q,h'.get? a=some q:=let ⟨q,_,_,hq,_⟩:=dd';⟨q,hq⟩
    exact d_write I (by rw [e];exact True.intro) hs he (dk_new hl hd (rel.put k rv) dd')
  · subst ey eH
    cases (show u=Value.ref b from ry)
    obtain ⟨z,hd,xs,rel,dd⟩:=dt_of I.hok e
    have hz:xs.length≤sizeLine:=by rw [← Paired.length rel];exact z
    have hl:(putK kvs k v).length≤sizeLine:=by have:=length_putK kvs k v;omega
    refine wpAny_setItem_heap (hsz:=hz) (tupleKind_room_in1 hu) (key_of I.hok eb) dd fun h' dd' hs=>h _ ?_
    obtain ⟨q,es,ep,hq,h2,h3,h4,_,h5⟩:=dd'
    refine d_write I (by rw [e];exact True.intro) hs ⟨q,hq⟩ ⟨hl,hd,_,(rel.put k eb rv).keeps fun c ys ec=>?_,q,es,ep,hq,h2,h3,h4,h5⟩
    rw [upd_ne (ne_of ec e (fun z=>nomatch z))]
    exact ec
end
section
variable {X:Cx} {pins:List (Addr × Obj)} {σ:St} {H:Hp} {s:Shared} {a:Addr} {kvs:List (Key × V)} {k:Key} {u:Value} {A:Around} {E:Value→Shared→Prop}
theorem d_pop {v:V} {more:List Value} {Q:Value→Shared→Prop} (I:Inv X pins σ H s) (e:H a=some (.dK kvs)) (ry:RelV (kV k) u) (l:valV kvs k=some v) (hm:more=[]∨∃ x,more=[x])
    (h:∀ w' s',Inv X pins σ (upd H a (.dK (dropK kvs k))) s'→RelV v w'→Q w' s'):wpAny (model X.prog X.w) A (call (.builtin "dict.pop") (.ref a::u::more)) Q E s:=by
  obtain ⟨z,hd,vs,rel,dd⟩:=dk_of I.hok e
  obtain ⟨w',hw,rw'⟩:=RelO.some_of (v:=v) (o:=valueAt vs k) (by rw [← l];exact rel.val k)
  have hp:(keyPart u).isSome=true:=by
    cases k with
    | inl i=>obtain ⟨t,q⟩:=(show ∃ t,u=Value.int i t from ry);subst q;rfl
    | inr x=>obtain ⟨t,q⟩:=(show ∃ t,u=Value.str x t from ry);subst q;rfl
  have ha:argsOk "dict.pop" ⟨.ref a::u::more,[]⟩:=by
    rcases hm with q | ⟨x,q⟩
    · subst q;exact PySem.F.args_dict_pop_2 _ _
    · subst q;exact PySem.F.args_dict_pop_3 _ _ _
  refine call_meetsIn PySem.F.slot_dict_pop dd.typeIs PySem.F.entry_dict_pop ha (meets_dict_pop_there (mixKind X.prog X.w) a (kV_is ry) more hm hp)
    ⟨vs,w',dd,by rw [← rel.length];exact z,hw,fun h' dd' hs=>h w' _ ?_ rw'⟩
  have he:∃ q,h'.get? a=some q:=let ⟨q,_,_,hq,_⟩:=dd';⟨q,hq⟩
  exact d_write I (by rw [e];exact True.intro) hs he (dk_new (Nat.le_trans (dropK_le kvs k) z) hd (rel.drop k) dd')
theorem d_len {Q:Value→Shared→Prop} (I:Inv X pins σ H s) (e:Rd H a (.dK kvs)) (h:∀ t s',Inv X pins σ H s'→Q (.int kvs.length t) s'):wpAny (model X.prog X.w) A (call (.builtin "len") [.ref a]) Q E s:=by
  obtain ⟨z,hd,vs,rel,dd⟩:=dk_rd I.hok e
  refine call_len_dict hd dd (by rw [← rel.length];rw [sizeLine_eq] at z;omega) ?_
  rw [← rel.length]
  exact h _ _ (I.tok _)
end
def NoSl (i:Expr):Prop:=∀ ov iv,subscripted i false ov iv=operate [ov,iv] (getItem ov iv)
theorem subD_of {prog:Program} {w:World} {A:Around} {E:Value→Shared→Prop} {s:Shared} {env:Env} {value slice:Expr} {pos:Pos} {T id:String} {Q:Value→Shared→Prop}
    (hl:typeLookup (.type T) "__getitem__" = pure (some (.builtin id))) (hs:NoSl slice)
    (h:wpAny (model prog w) A (eval value env) (fun o s₁=>wpAny (model prog w) A (eval slice env) (fun i s₂=>s₂.TypeIs o T∧wpAny (model prog w) A (getItem o i) Q E s₂) E s₁) E s) :
    wpAny (model prog w) A (eval (.Subscript value slice pos) env) Q E s:=by
  refine Subscript_ (wpAny_mono h (fun o s₁ h₁=>wpAny_mono h₁ (fun i s₂ h₂=>?_) fun _ _ x=>x) fun _ _ x=>x)
  obtain ⟨hT,h₂⟩:=h₂
  unfold subscriptTail
  refine wpAny_bind ?_
  rw [getitemInPython_of_ne hT.not_modules]
  refine wpAny_bind (wpAny_specialOf hT hl ?_)
  have fin:wpAny (model prog w) A (subscripted slice false o i) (fun r s₃=>wpAny (model prog w) A (letTemporaryGo value o r >>= fun _=>pure r) Q E s₃) E s₂:=by
    rw [hs o i]
    exact wpAny_operating (wpAny_mono h₂ (fun r s₃ h₃=>wpAny_bind (wpAny_letTemporaryGo (wpAny_pure h₃))) fun _ _ x=>x)
  first
    | exact wpAny_pure (wpAny_bind fin)
    | exact wpAny_bind (wpAny_pure (wpAny_bind fin))
    | exact wpAny_bind fin
theorem dict_typeIs {X:Cx} {pins:List (Addr × Obj)} {σ:St} {H:Hp} {s:Shared} {a:Addr} {y:V} {o:Option V} (I:Inv X pins σ H s) (g:DGet H a y o):s.TypeIs (.ref a) "dict":=by
  rcases g with ⟨kvs,k,e,_,_⟩ | ⟨kvs,k,b,e,_,_,_⟩
  · obtain ⟨_,_,vs,_,dd⟩:=dk_rd I.hok e
    exact dd.typeIs
  · obtain ⟨_,_,xs,_,dd⟩:=dt_rd I.hok e
    exact dd.typeIs
def tDGet (td ty:TE):TE:=fun σ H Q=>td σ H fun x H1=>ty σ H1 fun y H2=>∃ a v,x=.ref a∧DGet H2 a y (some v)∧Q v H2
def tDIn (ty td:TE):TE:=fun σ H Q=>ty σ H fun y H1=>td σ H1 fun x H2=>∃ a o,x=.ref a∧DGet H2 a y o∧Q (.bl o.isSome) H2
def tDNotIn (ty td:TE):TE:=fun σ H Q=>ty σ H fun y H1=>td σ H1 fun x H2=>∃ a o,x=.ref a∧DGet H2 a y o∧Q (.bl (!o.isSome)) H2
def sDPut (td ty tv:TE):TS:=fun D σ H=>tv σ H fun v H1=>td σ H1 fun x H2=>ty σ H2 fun y H3=>∃ a H4,x=.ref a∧DPut H3 a y v H4∧D.nx σ H4
section
variable {X:Cx} {o i e value:Expr} {pos pos' tpos:Pos} {td ty tv:TE}
theorem pe_dget (hu:X.A.units+1<cLine) (ho:PE X o td) (hi:PE X i ty) (hs:NoSl i):PE X (.Subscript o i pos) (tDGet td ty):=by
  intro pins s σ H Q I h
  refine subD_of PySem.F.slot_dict_getitem.lookup hs (thn (ho pins s σ H _ I h) fun u s1 ⟨x,H1,I1,rx,q1⟩=>thn (hi pins s1 σ H1 _ I1 q1) fun iv s2 ⟨y,H2,I2,ry,a,v,ex,g,q2⟩=>?_)
  subst ex
  obtain rfl:u=Value.ref a:=rx
  exact ⟨dict_typeIs I2 g,d_getItem hu I2 g ry fun w' s3 I3 rw'=>⟨v,H2,I3,rw',q2⟩⟩
theorem pc_din (hu:X.A.units+1<cLine) (hi:PE X i ty) (ho:PE X o td):PC X .In i o (tDIn ty td):=by
  intro pins s σ H Q I h
  refine thn (hi pins s σ H _ I h) fun iv s1 ⟨y,H1,I1,ry,q1⟩=>thn (ho pins s1 σ H1 _ I1 q1) fun u s2 ⟨x,H2,I2,rx,a,ov,ex,g,q2⟩=>?_
  subst ex
  obtain rfl:u=Value.ref a:=rx
  exact d_in hu I2 g ry fun s3 I3=>⟨.bl ov.isSome,H2,I3,rfl,q2⟩
theorem pc_dnotin (hu:X.A.units+1<cLine) (hi:PE X i ty) (ho:PE X o td):PC X .NotIn i o (tDNotIn ty td):=by
  intro pins s σ H Q I h
  refine thn (hi pins s σ H _ I h) fun iv s1 ⟨y,H1,I1,ry,q1⟩=>thn (ho pins s1 σ H1 _ I1 q1) fun u s2 ⟨x,H2,I2,rx,a,ov,ex,g,q2⟩=>?_
  subst ex
  obtain rfl:u=Value.ref a:=rx
  exact d_notIn hu I2 g ry fun s3 I3=>⟨.bl (!ov.isSome),H2,I3,rfl,q2⟩
theorem ps_dput (hu:X.A.units+1<cLine) (ho:PE X o td) (hi:PE X i ty) (hv:PE X value tv) (hs:swapsWith value (some (.Subscript o i pos')) pos.line X.env=pure false) :
    PS X (.Assign [.Subscript o i pos'] value pos) (sDPut td ty tv):=by
  intro pins s σ H D I h
  refine wpAny_Assign_Subscript (thn (hv pins s σ H _ I h) fun r s1 ⟨v,H1,I1,rv,q1⟩=>thn (ho pins s1 σ H1 _ I1 q1) fun u s2 ⟨x,H2,I2,rx,q2⟩=>thn (hi pins s2 σ H2 _ I2 q2) fun iv s3 ⟨y,H3,I3,ry,a,H4,ex,g,q3⟩=>?_) hs
  subst ex
  obtain rfl:u=Value.ref a:=rx
  exact d_setItem hu I3 g ry rv fun s4 I4=>⟨σ,H4,I4,q3⟩
end
theorem dk_empty {P:Program} {w:World} {H:Hp} (h:Heap) (hb:sysModules<h.objs.size):ObjOk P w H (h.push { cls:=.type "dict",data:=.dict #[] }) h.objs.size (.dK []) :=
  ⟨Nat.zero_le _,beq_eq_false_iff_ne.mpr (Ne.symm (Nat.ne_of_lt hb)),[],.nil,Heap.DictOf.new h⟩
theorem dt_empty {P:Program} {w:World} {H:Hp} (h:Heap) (hb:sysModules<h.objs.size):ObjOk P w H (h.push { cls:=.type "dict",data:=.dict #[] }) h.objs.size (.dT []) :=
  ⟨Nat.zero_le _,beq_eq_false_iff_ne.mpr (Ne.symm (Nat.ne_of_lt hb)),[],.nil,_,#[],0,Heap.get?_push_size _ rfl,⟨rfl,rfl,rfl⟩,rfl,rfl,List.nodup_nil⟩
def tDNewK:TE:=fun _ H Q=>∀ p,H p=none→Q (.ref p) (upd H p (.dK []))
def tDNewT:TE:=fun _ H Q=>∀ p,H p=none→Q (.ref p) (upd H p (.dT []))
section
variable {X:Cx} {pos:Pos}
theorem pe_dnewK:PE X (.Dict [] [] pos) tDNewK:=fun pins s σ H Q I h =>
  wpAny_Dict_empty ⟨.ref s.heap.objs.size,_,I.laid (a:=s.heap.objs.size) (o:=.dK []) (t':=s.toks) (fun _ _ q=>Heap.get?_push_of_some _ q) (Nat.le_refl _) (dk_empty s.heap I.big),rfl,h _ (I.hok.fresh (Nat.le_refl _))⟩
theorem pe_dnewT:PE X (.Dict [] [] pos) tDNewT:=fun pins s σ H Q I h =>
  wpAny_Dict_empty ⟨.ref s.heap.objs.size,_,I.laid (a:=s.heap.objs.size) (o:=.dT []) (t':=s.toks) (fun _ _ q=>Heap.get?_push_of_some _ q) (Nat.le_refl _) (dt_empty s.heap I.big),rfl,h _ (I.hok.fresh (Nat.le_refl _))⟩
end
def mergeK (kvs more:List (Key × V)):List (Key × V):=more.foldl (fun acc kv=>putK acc kv.1 kv.2) kvs
theorem KV.merge:∀ {more:List (Key × V)} {rs:List (Key × Value)} {kvs:List (Key × V)} {vs:List (Key × Value)},KV more rs→KV kvs vs→KV (mergeK kvs more) (merged vs rs):=by
  intro more rs kvs vs r
  unfold KV at r
  induction r generalizing kvs vs with
  | nil=>intro q;exact q
  | @cons p q ps qs h t ih =>
    intro r0
    have e:KV (putK kvs p.1 p.2) (stored vs q.1 q.2):=by
      have:=r0.put p.1 h.2
      rw [← h.1];exact this
    exact ih e
structure M1 (X:Cx) (o:Expr) (m:Str) (apos:Pos) (e:Expr) (cpos:Pos):Prop where
  base:attributeBase o m X.env (eval o X.env)=eval o X.env
  few:((backTo cpos (starEach [e] X.env)).all (fun x=>!x.1) && (backToKw cpos (keywordEach [] X.env)).all (fun x=>x.1.isSome)
    && decide (([e]:List Expr).length+([]:List Keyword).length+(if ([]:List Keyword).isEmpty then 0 else 1)<30))=true
  line:(apos.endLine == cpos.line)=true
  trees:backTo cpos (starEach [e] X.env)=[(false,eval e X.env)]
structure M2 (X:Cx) (o:Expr) (m:Str) (apos:Pos) (e f:Expr) (cpos:Pos):Prop where
  base:attributeBase o m X.env (eval o X.env)=eval o X.env
  few:((backTo cpos (starEach [e,f] X.env)).all (fun x=>!x.1) && (backToKw cpos (keywordEach [] X.env)).all (fun x=>x.1.isSome)
    && decide (([e,f]:List Expr).length+([]:List Keyword).length+(if ([]:List Keyword).isEmpty then 0 else 1)<30))=true
  line:(apos.endLine == cpos.line)=true
  trees:backTo cpos (starEach [e,f] X.env)=[(false,eval e X.env),(false,eval f X.env)]
def IsD (H:Hp) (a:Addr):Prop:=(∃ kvs,Rd H a (.dK kvs))∨∃ kvs,Rd H a (.dT kvs)
theorem isD_at {X:Cx} {pins:List (Addr × Obj)} {σ:St} {H:Hp} {s:Shared} {a:Addr} (I:Inv X pins σ H s) (d:IsD H a) :
    s.TypeIs (.ref a) "dict"∧(∀ b,Value.ref a=.ref b→∃ ob,s.heap.get? b=some ob∧ob.dict=none)∧(a == sysModules)=false:=by
  rcases d with ⟨kvs,e⟩ | ⟨kvs,e⟩
  · obtain ⟨_,hd,vs,_,dd⟩:=dk_rd I.hok e
    refine ⟨dd.typeIs,fun b q=>?_,hd⟩
    cases q
    obtain ⟨ob,_,_,h1,h2,_⟩:=dd
    exact ⟨ob,h1,h2.2.1⟩
  · obtain ⟨_,hd,xs,_,dd⟩:=dt_rd I.hok e
    refine ⟨dd.typeIs,fun b q=>?_,hd⟩
    cases q
    obtain ⟨ob,_,_,h1,h2,_⟩:=dd
    exact ⟨ob,h1,h2.2.1⟩
section
variable {X:Cx} {pins:List (Addr × Obj)} {σ:St} {H:Hp} {s:Shared} {a:Addr} {y d:V} {u r:Value} {o:Option V} {A:Around} {E:Value→Shared→Prop}
theorem d_get1 {Q:Value→Shared→Prop} (hu:A.units+1<cLine) (I:Inv X pins σ H s) (g:DGet H a y o) (ry:RelV y u) (h:∀ w' s',Inv X pins σ H s'→RelV (o.getD .non) w'→Q w' s') :
    wpAny (model X.prog X.w) A (call (.builtin "dict.get") [.ref a,u]) Q E s:=by
  rcases g with ⟨kvs,k,e,ey,l⟩ | ⟨kvs,k,b,e,ey,eb,l⟩
  · subst ey
    obtain ⟨z,hd,vs,rel,dd⟩:=dk_rd I.hok e
    refine call_meetsIn PySem.F.slot_dict_get dd.typeIs PySem.F.entry_dict_get (PySem.F.args_dict_get_2 _ _) (meets_dict_get (mixKind X.prog X.w) a (kV_is ry) hd) ⟨_,dd.mapOf,h _ _ (I.tok _) ?_⟩
    rw [l]
    exact (rel.val k).getD rfl
  · subst ey
    cases (show u=Value.ref b from ry)
    obtain ⟨z,hd,xs,rel,dd⟩:=dt_rd I.hok e
    refine call_meetsIn PySem.F.slot_dict_get dd.typeIs PySem.F.entry_dict_get (PySem.F.args_dict_get_2 _ _) (meetsH_dict_get (tupleKind (mixKind X.prog X.w)) a b hd) ⟨tupleKind_room_in1 hu,k,xs,key_of I.hok eb,dd,h _ _ (I.tok _) ?_⟩
    rw [l]
    exact (rel.val k).getD rfl
theorem d_get2 {Q:Value→Shared→Prop} (hu:A.units+1<cLine) (I:Inv X pins σ H s) (g:DGet H a y o) (ry:RelV y u) (rd:RelV d r) (h:∀ w' s',Inv X pins σ H s'→RelV (o.getD d) w'→Q w' s') :
    wpAny (model X.prog X.w) A (call (.builtin "dict.get") [.ref a,u,r]) Q E s:=by
  rcases g with ⟨kvs,k,e,ey,l⟩ | ⟨kvs,k,b,e,ey,eb,l⟩
  · subst ey
    obtain ⟨z,hd,vs,rel,dd⟩:=dk_rd I.hok e
    refine call_meetsIn PySem.F.slot_dict_get dd.typeIs PySem.F.entry_dict_get (PySem.F.args_dict_get_3 _ _ _) (meets_dict_get_default (mixKind X.prog X.w) a (kV_is ry) hd r) ⟨_,dd.mapOf,h _ _ (I.tok _) ?_⟩
    rw [l]
    exact (rel.val k).getD rd
  · subst ey
    cases (show u=Value.ref b from ry)
    obtain ⟨z,hd,xs,rel,dd⟩:=dt_rd I.hok e
    refine call_meetsIn PySem.F.slot_dict_get dd.typeIs PySem.F.entry_dict_get (PySem.F.args_dict_get_3 _ _ _) (meetsH_dict_get_default (tupleKind (mixKind X.prog X.w)) a b hd r) ⟨tupleKind_room_in1 hu,k,xs,key_of I.hok eb,dd,h _ _ (I.tok _) ?_⟩
    rw [l]
    exact (rel.val k).getD rd
end
def tDGet1 (td ty:TE):TE:=fun σ H Q=>td σ H fun x H1=>∃ a,x=.ref a∧IsD H1 a∧ty σ H1 fun y H2=>∃ o,DGet H2 a y o∧Q (o.getD .non) H2
def tDGet2 (td ty tx:TE):TE:=fun σ H Q=>td σ H fun x H1=>∃ a,x=.ref a∧IsD H1 a∧ty σ H1 fun y H2=>tx σ H2 fun z H3=>∃ o,DGet H3 a y o∧Q (o.getD z) H3
def tDPop1 (td ty:TE):TE:=fun σ H Q=>td σ H fun x H1=>∃ a,x=.ref a∧IsD H1 a∧ty σ H1 fun y H2=>∃ kvs k v,H2 a=some (.dK kvs)∧y=kV k∧valV kvs k=some v∧Q v (upd H2 a (.dK (dropK kvs k)))
section
variable {X:Cx} {o e f:Expr} {apos cpos:Pos} {td ty tx:TE}
theorem pe_dget1 (hu:X.A.units+1<cLine) (ho:PE X o td) (he:PE X e ty) (m:M1 X o "get" apos e cpos):PE X (.Call (.Attribute o "get" apos) [e] [] cpos) (tDGet1 td ty):=by
  intro pins s σ H Q I h
  refine wpAny_Call_method m.base m.few m.line PySem.F.plainAttrs_dict PySem.F.slot_dict_get PySem.F.type_dict_get (thn (ho pins s σ H _ I h) fun u s1 ⟨x,H1,I1,rx,a,ex,d,q1⟩=>?_)
  subst ex
  obtain rfl:u=Value.ref a:=rx
  obtain ⟨t1,t2,_⟩:=isD_at I1 d
  refine ⟨t1,t2,?_⟩
  rw [m.trees]
  refine Calls.callWith_builtin rfl (Calls.evalArgs_plain (Calls.spliced_cons (thn (he pins s1 σ H1 _ I1 q1) fun iv s2 ⟨y,H2,I2,ry,ov,g,q2⟩=>Calls.spliced_nil ?_)))
  exact d_get1 hu I2 g ry fun w' s3 I3 rw'=>⟨_,H2,I3,rw',q2⟩
theorem pe_dget2 (hu:X.A.units+1<cLine) (ho:PE X o td) (he:PE X e ty) (hf:PE X f tx) (m:M2 X o "get" apos e f cpos):PE X (.Call (.Attribute o "get" apos) [e,f] [] cpos) (tDGet2 td ty tx):=by
  intro pins s σ H Q I h
  refine wpAny_Call_method m.base m.few m.line PySem.F.plainAttrs_dict PySem.F.slot_dict_get PySem.F.type_dict_get (thn (ho pins s σ H _ I h) fun u s1 ⟨x,H1,I1,rx,a,ex,d,q1⟩=>?_)
  subst ex
  obtain rfl:u=Value.ref a:=rx
  obtain ⟨t1,t2,_⟩:=isD_at I1 d
  refine ⟨t1,t2,?_⟩
  rw [m.trees]
  refine Calls.callWith_builtin rfl (Calls.evalArgs_plain (Calls.spliced_cons (thn (he pins s1 σ H1 _ I1 q1) fun iv s2 ⟨y,H2,I2,ry,q2⟩ =>
    Calls.spliced_cons (thn (hf pins s2 σ H2 _ I2 q2) fun fv s3 ⟨z,H3,I3,rz,ov,g,q3⟩=>Calls.spliced_nil ?_))))
  exact d_get2 hu I3 g ry rz fun w' s4 I4 rw'=>⟨_,H3,I4,rw',q3⟩
theorem pe_dpop1 (ho:PE X o td) (he:PE X e ty) (m:M1 X o "pop" apos e cpos):PE X (.Call (.Attribute o "pop" apos) [e] [] cpos) (tDPop1 td ty):=by
  intro pins s σ H Q I h
  refine wpAny_Call_method m.base m.few m.line PySem.F.plainAttrs_dict PySem.F.slot_dict_pop PySem.F.type_dict_pop (thn (ho pins s σ H _ I h) fun u s1 ⟨x,H1,I1,rx,a,ex,d,q1⟩=>?_)
  subst ex
  obtain rfl:u=Value.ref a:=rx
  obtain ⟨t1,t2,_⟩:=isD_at I1 d
  refine ⟨t1,t2,?_⟩
  rw [m.trees]
  refine Calls.callWith_builtin rfl (Calls.evalArgs_plain (Calls.spliced_cons (thn (he pins s1 σ H1 _ I1 q1) fun iv s2 ⟨y,H2,I2,ry,kvs,k,v,ea,ey,l,q2⟩=>Calls.spliced_nil ?_)))
  subst ey
  exact d_pop I2 ea ry l (.inl rfl) fun w' s3 I3 rw'=>⟨v,_,I3,rw',q2⟩
end
section
variable {X:Cx} {pins:List (Addr × Obj)} {σ:St} {H:Hp} {s:Shared} {a:Addr} {kvs:List (Key × V)} {A:Around} {E:Value→Shared→Prop}
end
section
variable {X:Cx} {pins:List (Addr × Obj)} {σ:St} {H:Hp} {s:Shared} {a:Addr} {y:V} {u:Value} {A:Around} {E:Value→Shared→Prop}
end
end L2
namespace L2
open PySem PySem.Spec PyProof.Rows
section
variable {prog:Program} {w:World} {A:Around} {E:Value→Shared→Prop}
end
section
variable {X:Cx}
end
end L2
namespace L2
open PySem PySem.Spec PyProof.Rows
section
variable {X:Cx} {pins:List (Addr × Obj)} {σ:St} {H:Hp} {s:Shared} {h' : Heap}
theorem Inv.turnedNew {t' : Nat} {ch:List Addr} {T:Addr} {ob:HO} (I:Inv X pins σ H s) (k:∀ b o,b∉ch→s.heap.get? b=some o→h'.get? b=some o) (hf:∀ b∈ch,FpOk X pins H b) (hT:s.heap.objs.size≤T)
    (new:ObjOk X.prog X.w (upd H T ob) h' T ob):Inv X pins σ (upd H T ob) { s with heap:=h',toks:=t' }:=by
  have hn:H T=none:=I.hok.fresh hT
  have nit:∀ b u,H b=some u→b∉ch:=fun b u e z=>by
    have q:=(hf b z).1
    rw [q] at e;cases e
  refine I.step (g':=s.gens) (d':=s.drawn) (ch:=ch) (fun b hb=>⟨(hf b hb).2.2.2.1,(hf b hb).2.1,(hf b hb).2.2.2.2.1,(hf b hb).2.2.2.2.2⟩) (fun b o _ _ hc e _=>k b o hc e) (fun b o _ _ hc e _=>⟨o.slots,k b o hc e⟩)
    (fun b o _ e n=>?_) (fun b o hc e=>⟨o,k b o hc e⟩) (fun b xs e=>?_) (fun b o u e=>?_) (fun b ps e=>⟨#[],?_⟩) (fun m hm=>?_) (fun b u e=>?_) I.bare
  · rw [upd_ne (Nat.ne_of_lt (Nat.lt_of_lt_of_le (Heap.lt_size e) hT))];exact n
  · rw [upd_ne (ne_of_none e hn)];exact e
  · rw [upd_ne (ne_of_none e hn)];exact e
  · rw [upd_ne (ne_of_none e hn),e];simp
  · obtain ⟨o,es,ep,ho,r⟩:=hm
    exact ⟨o,es,ep,k _ o (fun z=>(hf _ z).2.1 rfl) ho,r⟩
  · by_cases hb:b=T
    · subst hb
      rw [upd_same] at e
      cases e
      exact new
    · rw [upd_ne hb] at e
      refine (I.hok b u e).stay (fun c v hc q=>k c v ?_ q) (fun c q=>by rw [upd_ne (ne_of_none q hn)];exact q) fun c xs q=>by rw [upd_ne (ne_of_none q hn)];exact q
      rcases hc with z | z
      · rw [z];exact nit b u e
      · exact nit c _ z
theorem Inv.lock {d:Addr} {u:HO} (I:Inv X pins σ H s) (h:H d=some u) (mu:Mut (some u)):∃ od,Inv X pins σ (upd H d (.frz od u)) s:=by
  have x:=I.hok d u h
  have ex:∃ od,s.heap.get? d=some od:=by
    cases u with
    | lst xs=>obtain ⟨_,_,_,_,e⟩:=x;exact ⟨_,e⟩
    | dK kvs=>obtain ⟨_,_,_,_,o,_,_,e,_⟩:=x;exact ⟨o,e⟩
    | dT kvs=>obtain ⟨_,_,_,_,o,_,_,e,_⟩:=x;exact ⟨o,e⟩
    | set S n=>obtain ⟨o,_,_,_,e,_⟩:=x;exact ⟨o,e⟩
    | ins C dx fs=>obtain ⟨_,_,_,e,_⟩:=x;exact ⟨_,e⟩
    | ext φ=>obtain ⟨_,⟨_,e⟩,_⟩:=x;exact ⟨_,e⟩
    | _=>exact False.elim mu
  obtain ⟨od,e⟩:=ex
  have new:ObjOk X.prog X.w (upd H d (.frz od u)) s.heap d (.frz od u):=by
    refine ⟨e,x.stay (fun b v _ q=>q) (fun b q=>?_) fun b xs q=>?_⟩
    · rw [upd_ne (fun z=>by rw [z,h] at q;cases q;exact mu)];exact q
    · rw [upd_ne (fun z=>by rw [z,h] at q;cases q;exact mu)];exact q
  exact ⟨od,I.write (x:=d) (e:=d) (t':=s.toks) (h':=s.heap) (by rw [h];exact mu) (.inl rfl) (fun b v _ q=>q) ⟨od,e⟩ new⟩
theorem Inv.nofrz {d:Addr} {u:HO} (I:Inv X pins σ H s) (h:H d=some u) (mu:Mut (some u)):∀ o' u',X.H_0 d≠some (.frz o' u'):=fun o' u' e=>by
  have q:=I.base.frzs d o' u' e
  rw [h] at q
  cases q
  exact mu
theorem Inv.unlock {d:Addr} {od:Obj} {u:HO} (I:Inv X pins σ H s) (h:H d=some (.frz od u)) (hn:∀ o' u',X.H_0 d≠some (.frz o' u')):Inv X pins σ (upd H d u) s:=by
  have neH:∀ b o,H b=some o→(∀ o' u',o≠.frz o' u')→b≠d:=fun b o e hne z=>by
    rw [z,h] at e
    cases e
    exact hne _ _ rfl
  have neN:∀ b,H b=none→b≠d:=fun b e z=>by rw [z,h] at e;cases e
  refine ⟨I.ok,I.os,I.bare,⟨I.base.keep,I.base.slot,fun b o e n hx=>?_,I.base.there,fun b xs e=>?_,fun b o x e=>?_,fun b ps e=>?_⟩,I.loc,I.cell,?_,fun x c e=>?_,fun p hp=>?_,fun b o e=>?_,I.len⟩
  · rw [upd_ne (neN b (I.base.free b o e n hx))];exact I.base.free b o e n hx
  · have q:=I.base.tups b xs e
    rw [upd_ne (neH b _ q (fun _ _ z=>nomatch z))];exact q
  · have q:=I.base.frzs b o x e
    rw [upd_ne (fun z=>by rw [z] at e;exact hn _ _ e)];exact q
  · obtain ⟨m,q⟩:=I.base.tbls b ps e
    exact ⟨m,by rw [upd_ne (neH b _ q (fun _ _ z=>nomatch z))];exact q⟩
  · rw [upd_ne (neN _ I.free)];exact I.free
  · rw [upd_ne (neN c (I.freeC x c e))];exact I.freeC x c e
  · obtain ⟨e,n,r⟩:=I.pin p hp
    exact ⟨e,by rw [upd_ne (neN _ n)];exact n,r⟩
  · by_cases hb:b=d
    · rw [hb,upd_same] at e
      cases e
      rw [hb]
      obtain ⟨_,x⟩:=I.hok d _ h
      exact x.stay (fun c v _ q=>q) (fun c q=>by rw [upd_ne (neH c _ q (fun _ _ z=>nomatch z))];exact q) fun c xs q=>by rw [upd_ne (neH c _ q (fun _ _ z=>nomatch z))];exact q
    · rw [upd_ne hb] at e
      exact (I.hok b o e).stay (fun c v _ q=>q) (fun c q=>by rw [upd_ne (neH c _ q (fun _ _ z=>nomatch z))];exact q) fun c xs q=>by rw [upd_ne (neH c _ q (fun _ _ z=>nomatch z))];exact q
end
def tLock (t:TS):TS:=fun D σ H=>∃ d u,H d=some u∧Mut (some u)∧∀ od,t ⟨fun σ' H'=>H' d=some (.frz od u)∧D.nx σ' (upd H' d u),fun v H'=>H' d=some (.frz od u)∧D.rt v (upd H' d u),fun σ' H'=>H' d=some (.frz od u)∧D.bk σ' (upd H' d u),fun σ' H'=>H' d=some (.frz od u)∧D.ct σ' (upd H' d u)⟩ σ (upd H d (.frz od u))
section
variable {X:Cx}
theorem ps_lock {st:Stmt} {t:TS} (h:PS X st t):PS X st (tLock t):=by
  intro pins s σ H D I hw
  obtain ⟨d,u,hd,mu,hw⟩:=hw
  obtain ⟨od,I1⟩:=I.lock hd mu
  refine thn (h pins s σ _ _ I1 (hw od)) fun f s1 q=>?_
  cases f with
  | next=>obtain ⟨σ',H',I2,e,q⟩:=q;exact ⟨σ',_,I2.unlock e (I.nofrz hd mu),q⟩
  | brk=>obtain ⟨σ',H',I2,e,q⟩:=q;exact ⟨σ',_,I2.unlock e (I.nofrz hd mu),q⟩
  | cont=>obtain ⟨σ',H',I2,e,q⟩:=q;exact ⟨σ',_,I2.unlock e (I.nofrz hd mu),q⟩
  | ret v=>obtain ⟨x,σ',H',I2,r,e,q⟩:=q;exact ⟨x,σ',_,I2.unlock e (I.nofrz hd mu),r,q⟩
theorem pi_one {tg:Expr} {pins:List (Addr × Obj)} {σ:St} {H:Hp} {s:Shared} {R:It→Hp→Prop} {J:It} {tn:Nat→Heap→Prop} {tk:Nat} (I:Inv X pins σ H s) (o:Obj)
    (T:Turn X.prog X.w X.K tg J [s.heap.objs.size] s.heap.objs.size tn) (st:tn 0 (s.heap.push o)) (q:R J H):PIE X pins σ tg R (.ref s.heap.objs.size) { s with heap:=s.heap.push o,toks:=tk }:=by
  refine ⟨s.heap.objs.size,[s.heap.objs.size],tn,J,H,rfl,I.kept fun b ob e=>Heap.get?_push_of_some _ e,T,st,fun b hb=>?_,q⟩
  have e:b=s.heap.objs.size:=by simpa using hb
  subst e
  exact I.fpOk (Nat.le_refl _) (I.hok.fresh (Nat.le_refl _))
end
def Itc (lo c:Int) (n:Nat):It:=⟨fun i _=>i<n,fun i H x H'=>H'=H∧x=.int (lo+(i:Nat)*c),fun i _=>n≤i⟩
theorem turn_rangeC {P:Program} {w:World} {K:PySem.W.Frag} {tg:Expr} (it:Addr) (lo c:Int) (n:Nat):Turn P w K tg (Itc lo c n) [it] it (fun i h=>IsRangeIter h it (lo+(i:Nat)*c) ((n:Int) - (i:Nat)) c) where
  mem:=by simp
  obj:=fun i h st b hb=>by
    have e:b=it:=by simpa using hb
    subst e
    exact ⟨_,st,fun v z=>nomatch z⟩
  keep:=fun i h h' st k=>k it (by simp) _ st
  item:=by
    intro X hP hw hK hc i pins s σ H E I hf st hg
    subst hP hw hK
    obtain ⟨f0,f1,f2,f3,f4,f5⟩:=hf it (by simp)
    have W:=Walks.range (prog:=X.prog) (w:=X.w) (I.ok.hd hc) it lo c n
    refine W.item i s _ _ hg st fun v h' tk hv st' kk=>?_
    obtain ⟨t,rfl⟩:=hv
    have I1:Inv X pins σ H { s with heap:=h',toks:=tk }:=I.turned (fun b o hb e=>kk b o (by simpa using hb) e) f0 f1 f3 f4 f5
    exact ⟨_,rfl,go_of (s:={ s with heap:=h',toks:=tk }) (n := "range_iterator") st' rfl rfl (by decide) ⟨.int (lo+(i:Nat)*c),H,I1,⟨t,rfl⟩,⟨rfl,rfl⟩,st',fun b hb=>(hf b hb).1⟩⟩
  done:=by
    intro X hP hw hK hc i pins s σ H E I hf st hg
    subst hP hw hK
    obtain ⟨f0,f1,f2,f3,f4,f5⟩:=hf it (by simp)
    exact wpAny_pyNext_range_end (I.ok.hd hc) st (by have:n≤i:=hg;omega) fun h' eb=>⟨rfl,I.turned (t':=s.toks) (fun b o hb e=>eb b o hb e) f0 f1 f3 f4 f5⟩
  self:=fun A i s Q E st h=>wpAny_pyIter_rangeiter st h
def RgC (i j c:Int) (n:Nat):Prop:=c≠0∧c.natAbs<1073741824∧Builtin.Range.small i j c=true∧Builtin.Range.rangeSize i j c=n
def iRng3 (ta:TA):TI:=fun σ H R=>ta σ H fun vs H1=>∃ (i j c:Int) (n:Nat),vs=[.int i,.int j,.int c]∧RgC i j c n∧R (Itc i c n) H1
section
variable {X:Cx} {tg:Expr}
theorem pi_range3 {a b c:Expr} {ta:TA} {p pos:Pos} (hg:Gl X "range") (hm:X.mg "range" = none) (ha:PA X [a,b,c] ta)
    (hs:starEach [a,b,c] X.env=(false,eval a X.env)::starEach [b,c] X.env:=by rfl) (hpl:(backTo pos (starEach [b,c] X.env)).any (·.1)=false:=by rfl) :
    PI X tg (.Call (.Name "range" p) [a,b,c] [] pos) (iRng3 ta):=by
  intro pins s σ H R I h
  refine Call_ (ld_blt I hg hm boot_range (PyProof.Rows.callWith_type1 (thn (ha pos pins s σ H _ I h) fun us s1 ⟨vs,H1,I1,r1,q1⟩=>?_) hs hpl))
  obtain ⟨i,j,k,n,e,⟨c0,c1,c2,c3⟩,q⟩:=q1
  subst e
  cases r1 with
  | cons r rr =>
    cases rr with
    | cons r' rr =>
      cases rr with
      | cons r'' rr =>
        cases rr
        obtain ⟨t,rfl⟩:=r
        obtain ⟨t',rfl⟩:=r'
        obtain ⟨t'',rfl⟩:=r''
        refine call_range_3 c0 ?_ (.inl (PyProof.noPylong_small c1))
        refine wpAny_pyIter_range (IsRange.new ..) c2 ?_
        have I2:Inv X pins σ H1 { s1 with heap:=s1.heap.push { cls:=.type "range",data:=.fields #[.int i t,.int j t',.int k t''] } }:=I1.kept (t':=s1.toks) fun b o e=>Heap.get?_push_of_some _ e
        refine pi_one (tk:=s1.toks) I2 _ (turn_rangeC _ i k n) ?_ q
        have e1:i+((0:Nat):Int)*k=i:=by simp
        have e2:(n:Int) - ((0:Nat):Int)=Builtin.Range.rangeSize i j k:=by rw [c3];simp
        show IsRangeIter _ _ (i+((0:Nat):Int)*k) ((n:Int) - ((0:Nat):Int)) k
        rw [e1,e2]
        exact Heap.get?_push_size _ rfl
end
theorem for_rangeC {lo c:Int} {n:Nat} {g:TG} {tb:TS} {D:Ends} {σ:St} {H:Hp} (Pv:Nat→St→Hp→Prop) (h0:Pv 0 σ H)
    (hs:∀ i σ H,i<n→Pv i σ H→g (.int (lo+(i:Nat)*c)) σ H fun σ2 H2=>tb { D with nx:=Pv (i+1),ct:=Pv (i+1),bk:=D.nx } σ2 H2) (hd:∀ σ H,Pv n σ H→D.nx σ H) :
    ∃ W:Nat→Nat→St→Hp→Prop,(∃ m,W 0 m σ H)∧∀ i m σ H,W i m σ H →
      ((Itc lo c n).stop i H∧D.nx σ H)∨((Itc lo c n).go i H∧∃ N:St→Hp→Prop,(∀ σ' H',N σ' H'→∃ m',m'<m∧W (i+1) m' σ' H')∧∀ x H',(Itc lo c n).yld i H x H'→g x σ H' fun σ2 H2=>tb { D with nx:=N,ct:=N,bk:=D.nx } σ2 H2):=by
  refine ⟨fun i m σ H=>m=n - i∧i≤n∧Pv i σ H,⟨n,by simp,Nat.zero_le _,h0⟩,?_⟩
  rintro i m σ H ⟨rfl,hi,p⟩
  by_cases hlt:i<n
  · refine .inr ⟨hlt,Pv (i+1),fun σ' H' p'=>⟨n - (i+1),by omega,rfl,hlt,p'⟩,fun x H' y=>?_⟩
    obtain ⟨e,y⟩:=y
    subst e y
    exact hs i σ _ hlt p
  · have e:i=n:=by omega
    subst e
    exact .inl ⟨Nat.le_refl _,hd σ H p⟩
section
variable {X:Cx} {tg:Expr}
end
section
variable {prog:Program} {w:World} {A:Around} {E:Value→Shared→Prop} {s:Shared}
theorem iter_keys {d:Addr} {o:Obj} {es:Array DictEntry} {ep:Nat} {Q:Value→Shared→Prop} (hd:(d == sysModules)=false) (ho:s.heap.get? d=some o) (hc:o.ExactDict) (hdat:o.data=.dict es ep)
    (hQ:Q (.ref s.heap.objs.size) { s with heap:=s.heap.push { cls:=.type "dict_keyiterator",data:=.fields #[.ref d,.int 0 0,.int es.size 0,.int ep 0] } }) :
    wpAny (model prog w) A (pyIter (.ref d)) Q E s:=by
  have hT:s.TypeIs (.ref d) "dict":=⟨o,ho,hc.1⟩
  refine wpAny_pyIter_slot hT F.slot_dict_iter (wpAny_call_entry F.slot_dict_iter hT F.entry_dict_iter ?_ (F.args_dict_iter_1 _))
  unfold Builtin.«dict.__iter__»
  refine wpAny_bind ?_
  unfold Builtin.Dict.dictSlotNone
  refine wpAny_bind (wpAny_notOrdered_dict hT ?_)
  show wpAny _ _ (pure (Value.ref d)) _ _ s
  refine wpAny_pure ?_
  show wpAny _ _ (Builtin.Dict.showsAll d >>= _) _ _ s
  unfold Builtin.Dict.showsAll
  rw [if_neg (by rw [hd];exact Bool.false_ne_true)]
  refine wpAny_bind (wpAny_pure ?_)
  refine wpAny_bind (wpAny_dictEntries ho hdat ?_)
  refine wpAny_bind (wpAny_dictEpoch ho hdat ?_)
  refine wpAny_bind (wpAny_newObj_type (wpAny_pure ⟨_,rfl, "dict_keyiterator",_,⟨_,Heap.get?_push_size _ rfl,rfl⟩,F.slot_dict_keyiterator_next.lookup,?_⟩))
  simpa [rawInt] using hQ
theorem next_key_item {it d:Addr} {i n ep:Nat} {od:Obj} {es:Array DictEntry} {en:DictEntry} {Q:Option Value→Shared→Prop} (hit:s.heap.IsKeyIter it d i n ep) (hod:s.heap.get? d=some od) (hdd:od.data=.dict es ep)
    (hsz:es.size=n) (hx:es[i]?=some en) (hQ:∀ h',h'.IsKeyIter it d (i+1) n ep→Heap.SameBut it s.heap h'→Q (some en.key) { s with heap:=h' }):wpAny (model prog w) A (pyNext (.ref it)) Q E s:=by
  obtain ⟨o,ho,hc,hd⟩:=id hit
  unfold pyNext
  refine wpAny_bind (wpAny_attempt (wpAny_callSpecial?_slot (name:=Str.ofString "__next__") hit.typeIs F.slot_dict_keyiterator_next
    (wpAny_call_entry F.slot_dict_keyiterator_next hit.typeIs F.entry_dict_keyiterator_next ?_ (F.args_dict_keyiterator_next_1 _))))
  refine wpAny_bind (wpAny_pure ?_)
  refine wpAny_bind ?_
  refine wpAny_bind ?_
  first | refine wpAny_bind (wpAny_typeNameOfWhole_keyiter hit.typeIs (wpAny_pure ?_)) | refine wpAny_bind (wpAny_typeNameOf_keyiter hit.typeIs (wpAny_pure ?_))
  refine wpAny_bind (wpAny_fieldsOf ho hd ?_)
  have hown:Builtin.Dict_items.ownsTuple "dict_keyiterator" = false:=by decide
  simp only [hown,Bool.false_eq_true,if_false]
  show wpAny _ _ (if (Value.ref d == Value.none)=true then _ else _) _ _ s
  rw [if_neg (show ¬ ((Value.ref d == Value.none)=true) from Bool.false_ne_true)]
  refine wpAny_bind (wpAny_pure ?_)
  refine wpAny_bind (wpAny_dictEntries hod hdd ?_)
  rw [if_neg (by rw [hsz];simp)]
  refine wpAny_bind (wpAny_pure ?_)
  refine wpAny_bind (wpAny_dictEpoch hod hdd ?_)
  rw [if_neg (by simp)]
  refine wpAny_pure ?_
  obtain ⟨hlt',hen⟩:=Array.getElem?_eq_some_iff.mp hx
  simp only [show ¬ ((i:Int)<0) from by omega,if_false,Int.toNat_natCast,Array.getElem?_eq_getElem hlt']
  refine wpAny_bind ?_
  first | refine wpAny_bind (wpAny_typeNameOfWhole_keyiter hit.typeIs (wpAny_pure ?_)) | refine wpAny_bind (wpAny_typeNameOf_keyiter hit.typeIs (wpAny_pure ?_))
  refine wpAny_bind (wpAny_isOneOf_keyiter hit.typeIs ?_)
  show wpAny _ _ (setField (.ref it) 1 (rawInt ((i:Int)+1)) >>= _) _ _ s
  refine wpAny_bind (wpAny_setField ho hd (by simp) ?_)
  have hit' : (s.heap.update it (Obj.mapFields (·.setIfInBounds 1 (rawInt ((i:Int)+1))))).IsKeyIter it d (i+1) n ep :=
    ⟨_,Heap.get?_update_self _ ho (Obj.isFreed_of_fields (Obj.data_mapFields hd _)),(Obj.cls_mapFields ..).trans hc,by rw [Obj.data_mapFields hd];simp [rawInt]⟩
  refine wpAny_bind (wpAny_holding ?_)
  refine wpAny_bind (wpAny_isOneOf_keyiter (s:={ s with heap:=s.heap.update it (Obj.mapFields (·.setIfInBounds 1 (rawInt ((i:Int)+1)))) }) hit'.typeIs ?_)
  show wpAny _ _ (pure es[i].key) _ _ _
  rw [hen]
  exact wpAny_pure (wpAny_pure ⟨_,rfl,wpAny_pure (hQ _ hit' (Heap.SameBut.update ..))⟩)
theorem next_key_end {it d:Addr} {i n ep:Nat} {od:Obj} {es:Array DictEntry} {Q:Option Value→Shared→Prop} (hh:A.handled=none) (hit:s.heap.IsKeyIter it d i n ep) (hod:s.heap.get? d=some od) (hdd:od.data=.dict es ep)
    (hsz:es.size=n) (hge:n≤i) (hQ:∀ h',Heap.ExtBut it s.heap h'→Q none { s with heap:=h' }):wpAny (model prog w) A (pyNext (.ref it)) Q E s:=by
  obtain ⟨o,ho,hc,hd⟩:=id hit
  unfold pyNext
  refine wpAny_bind (wpAny_attempt (wpAny_callSpecial?_slot (name:=Str.ofString "__next__") hit.typeIs F.slot_dict_keyiterator_next
    (wpAny_call_entry F.slot_dict_keyiterator_next hit.typeIs F.entry_dict_keyiterator_next ?_ (F.args_dict_keyiterator_next_1 _))))
  refine wpAny_bind (wpAny_pure ?_)
  refine wpAny_bind ?_
  refine wpAny_bind ?_
  first | refine wpAny_bind (wpAny_typeNameOfWhole_keyiter hit.typeIs (wpAny_pure ?_)) | refine wpAny_bind (wpAny_typeNameOf_keyiter hit.typeIs (wpAny_pure ?_))
  refine wpAny_bind (wpAny_fieldsOf ho hd ?_)
  have hown:Builtin.Dict_items.ownsTuple "dict_keyiterator" = false:=by decide
  simp only [hown,Bool.false_eq_true,if_false]
  show wpAny _ _ (if (Value.ref d == Value.none)=true then _ else _) _ _ s
  rw [if_neg (show ¬ ((Value.ref d == Value.none)=true) from Bool.false_ne_true)]
  refine wpAny_bind (wpAny_pure ?_)
  refine wpAny_bind (wpAny_dictEntries hod hdd ?_)
  rw [if_neg (by rw [hsz];simp)]
  refine wpAny_bind (wpAny_pure ?_)
  refine wpAny_bind (wpAny_dictEpoch hod hdd ?_)
  rw [if_neg (by simp)]
  refine wpAny_pure ?_
  have hge' : es.size≤i:=by rw [hsz];exact hge
  simp only [show ¬ ((i:Int)<0) from by omega,if_false,Int.toNat_natCast,Array.getElem?_eq_none hge']
  refine wpAny_bind ?_
  first | refine wpAny_bind (wpAny_typeNameOfWhole_keyiter hit.typeIs (wpAny_pure ?_)) | refine wpAny_bind (wpAny_typeNameOf_keyiter hit.typeIs (wpAny_pure ?_))
  show wpAny _ _ (setField (.ref it) 0 .none >>= _) _ _ s
  refine wpAny_bind (wpAny_setField ho hd (by simp) ?_)
  show wpAny _ _ (newExc (.type "StopIteration") [] >>= _) _ _ _
  refine wpAny_bind ?_
  simp only [newExc,newTuple]
  refine wpAny_bind (wpAny_newObj_type ?_ (by size_fits))
  refine wpAny_bind (m:=firstArgMember _ _) (wpAny_of_eq (a:=Value.none) (by first | rfl | (simp only [firstArgMember];rfl)) ?_)
  refine wpAny_newObj_type ?_ (by size_fits)
  simp only [raiseNew]
  refine wpAny_bind (wpAny_handled ?_)
  rw [show A.in1.handled=none from hh]
  refine wpAny_bind (wpAny_pure (wpAny_throw ?_))
  refine wpAny_bind (wpAny_isInstance (T := "StopIteration") (b:=true) ⟨_,Heap.get?_push_size _ rfl,rfl⟩ isSubtype_stop ?_)
  exact wpAny_pure (hQ _ (((Heap.SameBut.update ..).extBut.push _).push _))
end
theorem kv_get {κ:Type} {kvs:List (κ × V)} {vs:List (κ × Value)} (h:KV kvs vs):∀ {i:Nat} {k:κ} {v:V},kvs[i]?=some (k,v)→∃ u,vs[i]?=some (k,u)∧RelV v u:=by
  unfold KV at h
  induction h with
  | nil=>intro i k v e;simp at e
  | @cons a b l₁ l₂ r t ih =>
    intro i k v e
    cases i with
    | zero =>
      simp only [List.getElem?_cons_zero,Option.some.injEq] at e
      subst e
      refine ⟨b.2,?_,r.2⟩
      simp only [List.getElem?_cons_zero]
      exact congrArg some (Prod.ext r.1.symm rfl)
    | succ j =>
      simp only [List.getElem?_cons_succ] at e ⊢
      exact ih e
theorem paired_get {α β:Type} {G:α→β→Prop} {l₁:List α} {l₂:List β} (h:Paired G l₁ l₂):∀ {i:Nat} {a:α},l₁[i]?=some a→∃ b,l₂[i]?=some b∧G a b:=by
  induction h with
  | nil=>intro i a e;simp at e
  | @cons a b l₁ l₂ r t ih =>
    intro i a' e
    cases i with
    | zero =>
      simp only [List.getElem?_cons_zero,Option.some.injEq] at e
      subst e
      exact ⟨b,rfl,r⟩
    | succ j =>
      simp only [List.getElem?_cons_succ] at e ⊢
      exact ih e
theorem relV_key {k:Key} {u:Value} (h:keyIs k u=true):RelV (kV k) u:=by
  rcases keyIs_shape h with ⟨i,t,rfl,rfl⟩ | ⟨x,t,rfl,rfl⟩
  · exact ⟨t,rfl⟩
  · exact ⟨t,rfl⟩
section
variable {X:Cx} {pins:List (Addr × Obj)} {σ:St} {H:Hp} {s:Shared} {d:Addr} {o:Obj}
theorem Inv.frzK {kvs:List (Key × V)} (I:Inv X pins σ H s) (h:H d=some (.frz o (.dK kvs))) :
    (d == sysModules)=false∧s.heap.get? d=some o∧o.ExactDict∧∃ (es:Array DictEntry) (ep:Nat) (vs:List (Key × Value)),o.data=.dict es ep∧es.size=kvs.length∧KV kvs vs∧s.heap.DictAt (mixKind X.prog X.w) d vs ep:=by
  obtain ⟨hd,z,hs,vs,kv,o',es,ep,ho,hx,hdt,r⟩:=I.hok d _ h
  rw [hd] at ho
  cases ho
  refine ⟨hs,hd,hx,es,ep,vs,hdt,?_,kv,o,es,hd,hx,hdt,r⟩
  have l1:=r.2.1.length
  have l2:kvs.length=vs.length:=Paired.length kv
  rw [Array.length_toList] at l1
  omega
theorem Inv.frzT {kvs:List (List Key × V)} (I:Inv X pins σ H s) (h:H d=some (.frz o (.dT kvs))) :
    (d == sysModules)=false∧s.heap.get? d=some o∧o.ExactDict∧∃ (es:Array DictEntry) (ep:Nat),o.data=.dict es ep∧es.size=kvs.length ∧
      ∀ (i:Nat) (k:List Key) (v:V),kvs[i]?=some (k,v)→∃ (en:DictEntry) (q:Addr),es[i]?=some en∧en.key=.ref q∧H q=some (.tup (k.map kV)):=by
  obtain ⟨hd,z,hs,xs,pr,o',es,ep,ho,hx,hdt,he,_⟩:=I.hok d _ h
  rw [hd] at ho
  cases ho
  refine ⟨hs,hd,hx,es,ep,hdt,?_,fun i k v e=>?_⟩
  · have l1:es.size=xs.length:=size_of_entries he
    have l2:kvs.length=xs.length:=Paired.length pr
    omega
  · obtain ⟨b,hb,e1,e2,_⟩:=paired_get pr e
    have q:=entry_at he i
    rw [hb] at q
    exact ⟨_,b.2.1,q,rfl,e2⟩
end
def Itk (d:Addr) (o:Obj) (kvs:List (Key × V)):It :=
  ⟨fun i H=>H d=some (.frz o (.dK kvs))∧i<kvs.length,fun i H x H'=>H'=H∧∃ k v,kvs[i]?=some (k,v)∧x=kV k,fun i H=>H d=some (.frz o (.dK kvs))∧kvs.length≤i⟩
def Itkt (d:Addr) (o:Obj) (kvs:List (List Key × V)):It :=
  ⟨fun i H=>H d=some (.frz o (.dT kvs))∧i<kvs.length,fun i H x H'=>H'=H∧∃ (k:List Key) (v:V) (q:Addr),kvs[i]?=some (k,v)∧x=.ref q∧H q=some (.tup (k.map kV)),fun i H=>H d=some (.frz o (.dT kvs))∧kvs.length≤i⟩
theorem dict_ep {o:Obj} {es es' : Array DictEntry} {ep ep' : Nat} (h:o.data=.dict es ep) (h' : o.data=.dict es' ep'):es'=es∧ep'=ep:=by
  rw [h] at h'
  cases h'
  exact ⟨rfl,rfl⟩
section
variable {P:Program} {w:World} {K:PySem.W.Frag} {tg:Expr} {d:Addr} {o:Obj} {es:Array DictEntry} {ep:Nat}
theorem turn_keys {kvs:List (Key × V)} (it:Addr) (hod:o.data=.dict es ep):Turn P w K tg (Itk d o kvs) [it] it (fun i h=>h.IsKeyIter it d i kvs.length ep) where
  mem:=by simp
  obj:=fun i h st b hb=>by
    have e:b=it:=by simpa using hb
    subst e
    obtain ⟨oi,e,c,dd⟩:=st
    exact ⟨oi,e,fun v z=>by rw [dd] at z;cases z⟩
  keep:=fun i h h' st k=>st.at fun oi e=>k it (by simp) oi e
  item:=by
    intro X hP hw hK hc i pins s σ H E I hf st hg
    subst hP hw hK
    obtain ⟨hd,hi⟩:=hg
    obtain ⟨f0,f1,f2,f3,f4,f5⟩:=hf it (by simp)
    obtain ⟨hs,hgd,hx,es',ep',vs,hdt,hsz,kv,hm⟩:=I.frzK hd
    obtain ⟨rfl,rfl⟩:=dict_ep hod hdt
    obtain ⟨⟨k,v⟩,hkv⟩ : ∃ p,kvs[i]?=some p:=⟨kvs[i],List.getElem?_eq_getElem hi⟩
    obtain ⟨u,hu,ru⟩:=kv_get kv hkv
    have hl:kvs.length=vs.length:=Paired.length kv
    rw [hl] at st
    refine wpAny_pyNext_dict_item st hm hu fun key h' hkey st' sb=>?_
    have I1:Inv X pins σ H { s with heap:=h' }:=I.turned (t':=s.toks) (fun b ob hb e=>(sb.2 b hb).trans e) f0 f1 f3 f4 f5
    obtain ⟨oi,e,c,dd⟩:=id st'
    refine ⟨key,rfl,go_of (s:={ s with heap:=h' }) e c dd (by decide) ⟨kV k,H,I1,relV_key (show keyIs k key=true from hkey),⟨rfl,k,v,hkv,rfl⟩,?_,fun b hb=>(hf b hb).1⟩⟩
    show h'.IsKeyIter it d (i+1) kvs.length _
    rw [hl]
    exact st'
  done:=by
    intro X hP hw hK hc i pins s σ H E I hf st hg
    subst hP hw hK
    obtain ⟨hd,hi⟩:=hg
    obtain ⟨f0,f1,f2,f3,f4,f5⟩:=hf it (by simp)
    obtain ⟨hs,hgd,hx,es',ep',vs,hdt,hsz,kv,hm⟩:=I.frzK hd
    obtain ⟨rfl,rfl⟩:=dict_ep hod hdt
    exact next_key_end (I.ok.hd hc) st hgd hdt hsz hi fun h' eb=>⟨rfl,I.turned (t':=s.toks) (fun b ob hb e=>eb b ob hb e) f0 f1 f3 f4 f5⟩
  self:=fun A i s Q E st h=>wpAny_pyIter_keyiter st h
theorem turn_keysT {kvs:List (List Key × V)} (it:Addr) (hod:o.data=.dict es ep):Turn P w K tg (Itkt d o kvs) [it] it (fun i h=>h.IsKeyIter it d i kvs.length ep) where
  mem:=by simp
  obj:=fun i h st b hb=>by
    have e:b=it:=by simpa using hb
    subst e
    obtain ⟨oi,e,c,dd⟩:=st
    exact ⟨oi,e,fun v z=>by rw [dd] at z;cases z⟩
  keep:=fun i h h' st k=>st.at fun oi e=>k it (by simp) oi e
  item:=by
    intro X hP hw hK hc i pins s σ H E I hf st hg
    subst hP hw hK
    obtain ⟨hd,hi⟩:=hg
    obtain ⟨f0,f1,f2,f3,f4,f5⟩:=hf it (by simp)
    obtain ⟨hs,hgd,hx,es',ep',hdt,hsz,ent⟩:=I.frzT hd
    obtain ⟨rfl,rfl⟩:=dict_ep hod hdt
    obtain ⟨⟨k,v⟩,hkv⟩ : ∃ p,kvs[i]?=some p:=⟨kvs[i],List.getElem?_eq_getElem hi⟩
    obtain ⟨en,q,hen,hkey,hq⟩:=ent i k v hkv
    refine next_key_item st hgd hdt hsz hen fun h' st' sb=>?_
    have I1:Inv X pins σ H { s with heap:=h' }:=I.turned (t':=s.toks) (fun b ob hb e=>(sb.2 b hb).trans e) f0 f1 f3 f4 f5
    obtain ⟨oi,e,c,dd⟩:=id st'
    exact ⟨en.key,rfl,go_of (s:={ s with heap:=h' }) e c dd (by decide) ⟨.ref q,H,I1,hkey,⟨rfl,k,v,q,hkv,rfl,hq⟩,st',fun b hb=>(hf b hb).1⟩⟩
  done:=by
    intro X hP hw hK hc i pins s σ H E I hf st hg
    subst hP hw hK
    obtain ⟨hd,hi⟩:=hg
    obtain ⟨f0,f1,f2,f3,f4,f5⟩:=hf it (by simp)
    obtain ⟨hs,hgd,hx,es',ep',hdt,hsz,ent⟩:=I.frzT hd
    obtain ⟨rfl,rfl⟩:=dict_ep hod hdt
    exact next_key_end (I.ok.hd hc) st hgd hdt hsz hi fun h' eb=>⟨rfl,I.turned (t':=s.toks) (fun b ob hb e=>eb b ob hb e) f0 f1 f3 f4 f5⟩
  self:=fun A i s Q E st h=>by
    refine wpAny_pyIter_slot st.typeIs F.slot_dict_keyiterator_iter (wpAny_call_entry F.slot_dict_keyiterator_iter st.typeIs F.entry_dict_keyiterator_iter ?_ (F.args_dict_keyiterator_iter_1 _))
    show wpAny _ _ (ret (.ref it)) _ _ s
    exact wpAny_pure ⟨_,rfl, "dict_keyiterator",_,st.typeIs,F.slot_dict_keyiterator_next.lookup,h⟩
end
def iKeys (td:TE):TI:=fun σ H R=>td σ H fun x H1=>∃ d o,x=.ref d∧((∃ kvs,H1 d=some (.frz o (.dK kvs))∧R (Itk d o kvs) H1)∨∃ kvs,H1 d=some (.frz o (.dT kvs))∧R (Itkt d o kvs) H1)
section
variable {X:Cx} {tg e:Expr} {td:TE} {apos cpos:Pos}
theorem pi_keys (he:PE X e td):PI X tg e (iKeys td):=by
  intro pins s σ H R I h
  refine thn (he pins s σ H _ I h) fun u s1 ⟨x,H1,I1,rx,d,o,ex,q⟩=>?_
  subst ex
  obtain rfl:u=Value.ref d:=rx
  rcases q with ⟨kvs,hd,q⟩ | ⟨kvs,hd,q⟩
  · obtain ⟨hs,hgd,hx,es,ep,vs,hdt,hsz,kv,hm⟩:=I1.frzK hd
    refine iter_keys hs hgd hx hdt (pi_one (tk:=s1.toks) I1 _ (turn_keys _ hdt) ⟨_,Heap.get?_push_size _ rfl,rfl,?_⟩ q)
    rw [hsz] <;> rfl
  · obtain ⟨hs,hgd,hx,es,ep,hdt,hsz,ent⟩:=I1.frzT hd
    refine iter_keys hs hgd hx hdt (pi_one (tk:=s1.toks) I1 _ (turn_keysT _ hdt) ⟨_,Heap.get?_push_size _ rfl,rfl,?_⟩ q)
    rw [hsz] <;> rfl
end
def Ite (K:PySem.W.Frag) (a:Addr):It :=
  ⟨fun i H=>∃ (xs:List V) (x:V),SqL K H a xs∧xs[i]?=some x,fun i H v H'=>∃ T x,v=.ref T∧H T=none∧H'=upd H T (.tup [.int (i:Nat),x])∧∀ xs,SqL K H a xs→xs[i]?=some x,fun i H=>∃ xs:List V,SqL K H a xs∧xs.length≤i⟩
theorem turn_enum {P:Program} {w:World} {K:PySem.W.Frag} {elts:List Expr} {kk:Nat} {tpos:Pos} (a e it:Addr) :
    Turn P w K (.Tuple elts kk tpos) (Ite K a) [e,it] e (fun i h=>(∃ old,IsEnum h e it ((i:Nat):Int) old)∧h.IsListIter it a i∧e≠it) where
  mem:=by simp
  obj:=fun i h st b hb=>by
    obtain ⟨⟨old,he⟩,⟨o,ho,hc,hd⟩,_⟩:=st
    have e' : b=e∨b=it:=by simpa using hb
    rcases e' with z | z
    · rw [z];exact ⟨_,he,fun v q=>nomatch q⟩
    · rw [z];exact ⟨o,ho,fun v q=>by rw [hd] at q;cases q⟩
  keep:=fun i h h' st k=>let ⟨⟨old,he⟩,hi,hne⟩:=st;⟨⟨old,k e (by simp) _ he⟩,hi.at fun o q=>k it (by simp) o q,hne⟩
  item:=by
    intro X hP hw hK hc i pins s σ H E I hf st hg
    subst hP hw hK
    obtain ⟨⟨old,he⟩,hit,hne⟩:=st
    obtain ⟨xs,x,hq,hx⟩:=hg
    obtain ⟨its,rv,p,hz⟩:=I.list hq
    obtain ⟨u,hu,ru⟩:=rv.get hx
    have hel:e<s.heap.objs.size:=Heap.lt_size he
    have hil:it<s.heap.objs.size:=by obtain ⟨_,q,_⟩:=hit;exact Heap.lt_size q
    refine wpAny_pyNext_enum_item he hit p.isList (x:=u) (by simpa using hu) hne fun h' ho hit' hT hsz hk=>?_
    refine ⟨_,rfl,wpAny_letOwnedTupleGo_enum (s:={ s with heap:=h',toks:=s.toks+1 }) ho fun h'' he' sb=>?_⟩
    have hT2:h''.get? s.heap.objs.size=some { cls:=.type "tuple",data:=.seq #[.int i s.toks,u] }:=(sb.2 _ (Nat.ne_of_gt hel)).trans hT
    have new:ObjOk X.prog X.w (upd H s.heap.objs.size (.tup [.int (i:Nat),x])) h'' s.heap.objs.size (.tup [.int (i:Nat),x]) :=
      ⟨by show 2≤sizeLine;decide,[.int i s.toks,u],.cons ⟨_,rfl⟩ (.cons ru .nil),⟨_,hT2,rfl,_,rfl⟩⟩
    have I1:Inv X pins σ (upd H s.heap.objs.size (.tup [.int (i:Nat),x])) { s with heap:=h'',toks:=s.toks+1 } :=
      I.turnedNew (ch:=[e,it]) (fun b ob hb q=>(sb.2 b (fun z=>hb (by simp [z]))).trans (hk b ob (fun z=>hb (by simp [z])) (fun z=>hb (by simp [z])) q)) hf (Nat.le_refl _) new
    refine ⟨.ref s.heap.objs.size,_,I1,rfl,⟨_,x,rfl,I.hok.fresh (Nat.le_refl _),rfl,fun ys hy=>by rw [I.list_inj hy hq];exact hx⟩,⟨⟨u,?_⟩,hit'.at fun o q=>(sb.2 it (Ne.symm hne)).trans q,hne⟩,fun b hb=>?_⟩
    · have e1:((i+1:Nat):Int)=(i:Int)+1:=by omega
      rw [e1];exact he'
    · have hb' : b<s.heap.objs.size:=by
        have e' : b=e∨b=it:=by simpa using hb
        rcases e' with z | z
        · rw [z];exact hel
        · rw [z];exact hil
      rw [upd_ne (Nat.ne_of_lt hb')]
      exact (hf b hb).1
  done:=by
    intro X hP hw hK hc i pins s σ H E I hf st hg
    subst hP hw hK
    obtain ⟨⟨old,he⟩,hit,hne⟩:=st
    obtain ⟨xs,hq,hx⟩:=hg
    obtain ⟨its,rv,p,hz⟩:=I.list hq
    obtain ⟨f0,f1,f2,f3,f4,f5⟩:=hf it (by simp)
    have hl:=rv.length
    exact wpAny_pyNext_enum_end (I.ok.hd hc) he hit p.isList (by simp;omega) fun h' eb=>⟨rfl,I.turned (t':=s.toks) (fun b o hb q=>eb b o hb q) f0 f1 f3 f4 f5⟩
  self:=fun A i s Q E st h=>let ⟨⟨_,he⟩,_⟩:=st;wpAny_pyIter_enum he h
def iEnum (K:PySem.W.Frag) (ta:TA):TI:=fun σ H R=>ta σ H fun vs H1=>∃ a xs,vs=[.ref a]∧SqL K H1 a xs∧R (Ite K a) H1
theorem pi_enum {X:Cx} {e:Expr} {ta:TA} {p pos tpos:Pos} {elts:List Expr} {kk:Nat} (hg:Gl X "enumerate") (hm:X.mg "enumerate" = none) (ha:PA X [e] ta) (hs:starEach [e] X.env=[(false,eval e X.env)]:=by rfl) :
    PI X (.Tuple elts kk tpos) (.Call (.Name "enumerate" p) [e] [] pos) (iEnum X.K ta):=by
  intro pins s σ H R I h
  refine Call_ (ld_blt I hg hm boot_enumerate (PyProof.Rows.callWith_type1 (thn (ha pos pins s σ H _ I h) fun us s1 ⟨vs,H1,I1,r1,q1⟩=>?_) hs rfl))
  obtain ⟨a,xs,ex,hq,q⟩:=q1
  subst ex
  cases r1 with
  | cons r rr =>
    cases rr
    cases r
    obtain ⟨its,rv,p',hz⟩:=I1.list hq
    refine call_enumerate_list p'.isList fun h' he hit hsz hk=>wpAny_pyIter_enum he ?_
    have I2:Inv X pins σ H1 { s1 with heap:=h' }:=I1.kept (t':=s1.toks) hk
    refine ⟨s1.heap.objs.size+1,[s1.heap.objs.size+1,s1.heap.objs.size],_,_,H1,rfl,I2,turn_enum a (s1.heap.objs.size+1) s1.heap.objs.size,⟨⟨.none,he⟩,hit,Nat.succ_ne_self _⟩,fun b hb=>?_,q⟩
    have e' : b=s1.heap.objs.size+1∨b=s1.heap.objs.size:=by simpa using hb
    have hle:s1.heap.objs.size≤b:=by
      rcases e' with z | z
      · rw [z];exact Nat.le_add_right _ _
      · rw [z];exact Nat.le_refl _
    exact I1.fpOk hle (I1.hok.fresh hle)
end L2
section
namespace Bits
open PySem PyProof.Rows
end Bits
end
section
namespace TL
open PySem PySem.Builtin PySem.Builtin.Str PySem.StrLaws
end TL
end
namespace L2
open PySem PySem.Spec PyProof.Rows
section
variable {X:Cx} {pins:List (Addr × Obj)} {σ:St} {H:Hp} {s:Shared} {Q:VK}
end
section
variable {X:Cx}
end
section
variable {X:Cx} {o e:Expr} {to te:TE}
end
end L2
namespace L2
open PySem PySem.Spec PyProof.Rows
section
variable {X:Cx}
end
end L2
namespace Att
open PySem PySem.W PySem.Calls PyProof.Rows
section
variable {prog:Program} {w:World} {A:Around} {E:Value→Shared→Prop} {s:Shared} {K:Frag}
end
end Att
namespace L2
open PySem PySem.Spec PyProof.Rows
end L2
namespace L2
open PySem PySem.Spec PyProof.Rows
end L2
namespace L2
open PySem PySem.Spec PyProof.Rows
def inClass (s:Stmt) (j:Nat):Stmt:=match s with
  | .ClassDef _ _ _ body _ _ _ _ _ _ _=>body.getD j (.Pass ⟨0,0,0,0⟩)
  | _=>.Pass ⟨0,0,0,0⟩
def defArgs (s:Stmt):Arguments:=match s with
  | .FunctionDef _ a _ _ _ _ _ _ _ _=>a
  | _=>{ posonlyargs:=[],args:=[],vararg:=none,kwonlyargs:=[],kw_defaults:=[],kwarg:=none,defaults:=[] }
def defBody (s:Stmt):List Stmt:=match s with
  | .FunctionDef _ _ b _ _ _ _ _ _ _=>b
  | _=>[]
def defScope (s:Stmt):Scope:=match s with
  | .FunctionDef _ _ _ _ _ _ sc _ _ _=>sc
  | _=>{ kind:=.function,names:=[],isGenerator:=false,isCoroutine:=false }
abbrev CX0:CXT:=fun _ _ _ _ _ _=>False
abbrev E0:XK:=fun _ _ _=>False
theorem pass0 {X:Cx}:Passes CX0 X E0:=fun _ _ _ _ _ _ _ h=>h.elim
structure Fun (K:PySem.W.Frag) (x qual:Str) (st:Stmt) (f:Addr) (fd:FuncData):Prop where
  ex:∃ (oc:Value) (od:Option Addr) (kV doc pm:Value) (an:Option Addr) (cdv ct:Value) (osl:Array (Option Value)),
    fd=PySem.W.fnOf x qual (defArgs st) (defBody st) (defScope st) .none kV doc pm an cdv ct∧K.lookup f=some ⟨oc,od,.func fd,osl⟩∧PySem.W.codeIn K cdv qual=true
  kp:PySem.W.keepIn K (.ref f)=true
section
variable {P:Program} {w:World} {K:PySem.W.Frag} {mg:Str→Option Value} {base:Heap}
theorem Fun.ok {x qual:Str} {st:Stmt} {f:Addr} {fd:FuncData} {N ps:List Str} {k:Nat} {sp:Sp} (F:Fun K x qual st f fd) (S:FnScope N ps (defScope st)) (len:∀ vs H Q E,sp vs H Q E→vs.length=ps.length)
    (hbody:∀ (cdv:Value) (A:Around) (outer:List Env) (s:Shared) (H:Hp) (vs:List V) (Q:VK) (E:XK),Room k (A.deeper (envOfC qual (defScope st) s.heap.objs.size f cdv))→sp vs H Q E →
      ∃ t,PSs (cxOf CX0 P w K mg base N qual (defScope st) f cdv A outer s H E).nox (defBody st) t∧t { nx:=fun _ H'=>Q .non H',rt:=Q } (start N vs) H):FnOk P w K mg base CX0 (k+1) f fd ps sp:=by
  obtain ⟨oc,od,kV,doc,pm,an,cdv,ct,osl,rfl,lk,hcd⟩:=F.ex
  refine fn_of lk hcd S len fun A outer s H vs Q E hr hsp=>?_
  obtain ⟨t,h,q⟩:=hbody cdv A outer s H vs Q E hr hsp
  exact ⟨t,h.nox,q⟩
theorem Fun.binds {x qual:Str} {st:Stmt} {f:Addr} {fd:FuncData} {ps:List Str} (F:Fun K x qual st f fd)
    (h:∀ (kV doc pm:Value) (an:Option Addr) (cdv ct:Value) (us:List Value),us.length=ps.length→bindArgs (PySem.W.fnOf x qual (defArgs st) (defBody st) (defScope st) .none kV doc pm an cdv ct) ⟨us,[]⟩=pure (ps.zip us)):Binds K fd ps []:=by
  obtain ⟨oc,od,kV,doc,pm,an,cdv,ct,osl,rfl,lk,hcd⟩:=F.ex
  exact .all (h kV doc pm an cdv ct)
theorem fun_mk {x qual:Str} {st:Stmt} {f:Addr} {oc:Value} {od an:Option Addr} {osl:Array (Option Value)} {kV doc pm cdv ct:Value} (l:K.lookup f=some ⟨oc,od,.func (PySem.W.fnOf x qual (defArgs st) (defBody st) (defScope st) .none kV doc pm an cdv ct),osl⟩)
    (c:PySem.W.codeIn K cdv qual=true) (k:PySem.W.keepIn K (.ref f)=true):Fun K x qual st f (PySem.W.fnOf x qual (defArgs st) (defBody st) (defScope st) .none kV doc pm an cdv ct):=⟨⟨oc,od,kV,doc,pm,an,cdv,ct,osl,rfl,l,c⟩,k⟩
end
theorem hu_of {A:Around} {k:Nat} (hr:Room k A):A.units+1<cLine:=Nat.lt_of_le_of_lt (Nat.add_le_add_left (by decide:1≤64) _) hr.units
theorem small1000 {n:Nat} (h:n≤1000):n<sizeLine:=Nat.lt_of_le_of_lt h (by decide)
section
variable {X:Cx}
theorem pv (i:Nat) {x:Str} {pos:Pos} (hN:X.N[i]?=some x:=by rfl) (hv:Vis X.env.scope x:=by first | exact Or.inl rfl | exact Or.inr (Or.inl rfl) | exact Or.inr (Or.inr rfl)) (hd:(x == ("__debug__" : Str))=false:=by decide)
    (hcd:(x == ("__classdict__" : Str))=false:=by decide):PE X (.Name x pos) (tVar i):=pe_var hN hv hd hcd
theorem call_lenD:CallR X (.builtin "len") (fun xs H Q=>∃ a kvs,xs=[V.ref a]∧H a=some (.dK kvs)∧Q (.int kvs.length) H):=by
  intro pins s σ H xs us Q I r h
  obtain ⟨a,kvs,rfl,ha,q⟩:=h
  obtain ⟨u,rfl,ru⟩:=vals1 r
  cases ru
  exact d_len I (.inl ha) fun t s' I'=>⟨.int kvs.length,H,I',⟨t,rfl⟩,q⟩
end
theorem iteF {A B:Prop} (h:B):if false=true then A else B:=by
  rw [if_neg Bool.false_ne_true]
  exact h
theorem iteT {A B:Prop} (h:A):if true=true then A else B:=by
  rw [if_pos rfl]
  exact h
theorem ite2 {c A B:Prop} [Decidable c] (h1:c→A) (h2:¬ c→B):if c then A else B:=by
  by_cases h:c
  · rw [if_pos h]
    exact h1 h
  · rw [if_neg h]
    exact h2 h
def Same (H H' : Hp):Prop:=∀ b o,H b=some o→H' b=some o
theorem Same.refl (H:Hp):Same H H:=fun _ _ h=>h
theorem Same.trans {H H1 H2:Hp} (a:Same H H1) (b:Same H1 H2):Same H H2:=fun c o h=>b c o (a c o h)
theorem Same.free {H H' : Hp} (e:Same H H') {l:Addr} (h:H' l=Option.none):H l=Option.none:=by
  cases q:H l with
  | none=>rfl
  | some o =>
    rw [e l o q] at h
    cases h
theorem Same.seq {K:PySem.W.Frag} {H H' : Hp} {a:Addr} {xs:List V} (e:Same H H') (h:SqL K H a xs):SqL K H' a xs:=by
  rcases h with (h | ⟨o,h⟩) | h
  · exact .inl (.inl (e _ _ h))
  · exact .inl (.inr ⟨o,e _ _ h⟩)
  · exact .inr h
section
variable {κ:Type} [DecidableEq κ]
theorem valV_not {kvs:List (κ × V)} {k:κ} (h:valV kvs k=none):¬ k∈kvs.map (·.1):=by
  intro m
  obtain ⟨p,hp,e⟩:=List.mem_map.mp m
  have q:(kvs.any fun kv=>decide (kv.1=k))=true:=List.any_eq_true.mpr ⟨p,hp,decide_eq_true e⟩
  rw [valV_any,h] at q
  exact absurd q (by simp)
theorem valV_in {kvs:List (κ × V)} {k:κ} {v:V} (h:valV kvs k=some v):k∈kvs.map (·.1):=by
  have q:(kvs.any fun kv=>decide (kv.1=k))=true:=by
    rw [valV_any,h]
    all_goals rfl
  obtain ⟨p,hp,e⟩:=List.any_eq_true.mp q
  exact List.mem_map.mpr ⟨p,hp,of_decide_eq_true e⟩
theorem nd_snoc:∀ {l:List κ} {k:κ},l.Nodup→¬ k∈l→(l++[k]).Nodup
  | [],k,_,_=>by simp
  | a::r,k,h,hk=>by
    obtain ⟨h1,h2⟩:=List.nodup_cons.mp h
    show (a::(r++[k])).Nodup
    refine List.nodup_cons.mpr ⟨fun m=>?_,nd_snoc h2 fun m=>hk (List.mem_cons.mpr (Or.inr m))⟩
    rcases List.mem_append.mp m with q | q
    · exact h1 q
    · exact hk (List.mem_cons.mpr (Or.inl (List.mem_singleton.mp q).symm))
theorem nd_putK {kvs:List (κ × V)} {k:κ} (v:V) (hn:(kvs.map (·.1)).Nodup) (h:valV kvs k=none):((putK kvs k v).map (·.1)).Nodup:=by
  rw [putK_new v h,List.map_append]
  exact nd_snoc hn (valV_not h)
theorem dropK_pos {p:κ × V} {r:List (κ × V)} {k:κ} (e:p.1=k):dropK (p::r) k=dropK r k:=by
  unfold dropK
  rw [List.filter_cons,if_neg (by simp [e])]
theorem dropK_neg {p:κ × V} {r:List (κ × V)} {k:κ} (e:¬ p.1=k):dropK (p::r) k=p::dropK r k:=by
  unfold dropK
  rw [List.filter_cons,if_pos (by simp [e])]
theorem dropK_mem {kvs:List (κ × V)} {k:κ} {p:κ × V} (h:p∈dropK kvs k):p∈kvs:=(List.mem_filter.mp h).1
theorem nd_dropK:∀ {kvs:List (κ × V)} {k:κ},(kvs.map (·.1)).Nodup→((dropK kvs k).map (·.1)).Nodup
  | [],_,_=>List.nodup_nil
  | p::r,k,h=>by
    have h:(p.1::r.map (·.1)).Nodup:=h
    obtain ⟨h1,h2⟩:=List.nodup_cons.mp h
    by_cases e:p.1=k
    · rw [dropK_pos e]
      exact nd_dropK h2
    · rw [dropK_neg e]
      show (p.1::(dropK r k).map (·.1)).Nodup
      refine List.nodup_cons.mpr ⟨fun m=>h1 ?_,nd_dropK h2⟩
      obtain ⟨q,hq,eq⟩:=List.mem_map.mp m
      exact List.mem_map.mpr ⟨q,dropK_mem hq,eq⟩
end
theorem nd_ix {α:Type} {l:List α} (hN:l.Nodup) {i j:Nat} {x:α} (a:l[i]?=some x) (b:l[j]?=some x):i=j:=by
  obtain ⟨h1,e1⟩:=List.getElem?_eq_some_iff.mp a
  obtain ⟨h2,e2⟩:=List.getElem?_eq_some_iff.mp b
  exact (List.getElem_inj hN).mp (e1.trans e2.symm)
theorem Same.made {H H1:Hp} {x dx C:Addr} (nx:H x=Option.none) (nd:H dx=Option.none) (k:∀ b o,(upd (upd H dx (.own x)) x (.ins C dx [])) b=some o→b≠x→H1 b=some o):Same H H1:=fun b o e =>
  k b o (by rw [upd_ne (ne_of_none e nx),upd_ne (ne_of_none e nd)];exact e) (ne_of_none e nx)
end L2
end
section
set_option Elab.async false
set_option linter.all false
set_option maxRecDepth 100000
set_option maxHeartbeats 2000000
namespace L2
open PySem PySem.Spec PyProof.Rows
open PySem.W (WData Codec OpenSpec Well WellAll ReadsW ReadsAllW)
mutual
inductive Dw (K:PySem.W.Frag) (H:Hp):V→WData→Prop
  | non:Dw K H .non .none
  | bl (b:Bool):Dw K H (.bl b) (.bool b)
  | int (i:Int):Dw K H (.int i) (.int i)
  | str (x:Str):Dw K H (.str x) (.str x)
  | byt (b:Array UInt8):Dw K H (.byt b) (.bytes b.toList)
  | lst {a:Addr} {xs:List V} {ds:List WData}:SqL K H a xs→DwAll K H xs ds→Dw K H (.ref a) (.list ds)
  | tup {a:Addr} {xs:List V} {ds:List WData}:SqT K H a xs→DwAll K H xs ds→Dw K H (.ref a) (.tuple ds)
inductive DwAll (K:PySem.W.Frag) (H:Hp):List V→List WData→Prop
  | nil:DwAll K H [] []
  | cons {v:V} {vs:List V} {d:WData} {ds:List WData}:Dw K H v d→DwAll K H vs ds→DwAll K H (v::vs) (d::ds)
end
theorem dw_ints {K:PySem.W.Frag} {H:Hp}:∀ ns:List Int,DwAll K H (ns.map V.int) (ns.map WData.int)
  | []=>.nil
  | n::r=>.cons (.int n) (dw_ints r)
theorem ints_dw {K:PySem.W.Frag} {H:Hp}:∀ (ns:List Int) (xs:List V),DwAll K H xs (ns.map WData.int)→xs=ns.map V.int
  | [],xs,h=>by
    cases h
    rfl
  | n::r,xs,h=>by
    cases h with
    | cons h1 h2 =>
      cases h1
      rw [ints_dw r _ h2] <;> rfl
section
variable {P:Program} {w:World} {K:PySem.W.Frag} {H:Hp} {h:Heap} {R:PySem.W.WRecords} {cl:Str→Option Addr}
theorem sqL_at {a:Addr} {xs:List V} (hok:HOk P w H h) (KX:K.In h) (q:SqL K H a xs):∃ (its:List Value) (o:Obj) (n:Nat),Vals xs its∧h.get? a=some o∧o.cls=.type "list"∧o.data=.seq its.toArray n:=by
  rcases q with q | ⟨o,its,n,e,hc,_,hd,_,hv⟩
  · obtain ⟨_,its,n,hv,e⟩:=(show ObjOk P w H h a (.lst xs) from q.ok hok)
    exact ⟨its,_,n,hv,e,rfl,rfl⟩
  · exact ⟨its.toList,o,n,hv,KX _ _ e,hc,by simp [hd]⟩
theorem sqT_at {a:Addr} {xs:List V} (hok:HOk P w H h) (KX:K.In h) (q:SqT K H a xs):∃ (its:List Value) (o:Obj) (n:Nat),Vals xs its∧h.get? a=some o∧o.cls=.type "tuple"∧o.data=.seq its.toArray n:=by
  rcases q with q | ⟨o,its,n,e,hc,hd,_,hv⟩
  · obtain ⟨_,its,hv,o,e,hc,n,hd⟩:=(show ObjOk P w H h a (.tup xs) from q.ok hok)
    exact ⟨its,o,n,hv,e,hc,hd⟩
  · exact ⟨its.toList,o,n,hv,KX _ _ e,hc,by simp [hd]⟩
mutual
theorem Dw.reads (hok:HOk P w H h) (KX:K.In h):∀ (d:WData) (v:V) (u:Value),Dw K H v d→RelV v u→∃ as,ReadsW R cl h u d as
  | .none,_,_,x,r=>by
    cases x
    cases r
    exact ⟨_,ReadsW.none⟩
  | .bool b,_,_,x,r=>by
    cases x
    cases r
    exact ⟨_,ReadsW.bool b⟩
  | .int i,_,_,x,r=>by
    cases x
    obtain ⟨t,rfl⟩:=r
    exact ⟨_,ReadsW.int i t⟩
  | .str s,_,_,x,r=>by
    cases x
    obtain ⟨t,rfl⟩:=r
    exact ⟨_,ReadsW.str s t⟩
  | .bytes b,_,_,x,r=>by
    cases x
    obtain ⟨t,rfl⟩:=r
    exact ⟨_,ReadsW.bytes _ t⟩
  | .list ds,_,_,x,r=>by
    cases x with
    | lst hs ha =>
      cases r
      obtain ⟨its,o,n,rv,ho,hc,hd⟩:=sqL_at hok KX hs
      obtain ⟨as,hr⟩:=Dw.readsAll hok KX ds _ its ha rv
      exact ⟨_,ReadsW.list ho hc hd hr⟩
  | .tuple ds,_,_,x,r=>by
    cases x with
    | tup hs ha =>
      cases r
      obtain ⟨its,o,n,rv,ho,hc,hd⟩:=sqT_at hok KX hs
      obtain ⟨as,hr⟩:=Dw.readsAll hok KX ds _ its ha rv
      exact ⟨_,ReadsW.tuple ho hc hd hr⟩
  | .float _,_,_,x,_=>by cases x
  | .dict _,_,_,x,_=>by cases x
  | .bytearray _,_,_,x,_=>by cases x
  | .set _,_,_,x,_=>by cases x
  | .frozenset _,_,_,x,_=>by cases x
  | .obj _ _,_,_,x,_=>by cases x
theorem Dw.readsAll (hok:HOk P w H h) (KX:K.In h):∀ (ds:List WData) (vs:List V) (us:List Value),DwAll K H vs ds→Vals vs us→∃ as,ReadsAllW R cl h us ds as
  | [],_,_,x,r=>by
    cases x
    cases r
    exact ⟨_,ReadsAllW.nil⟩
  | d::ds,_,_,x,r=>by
    cases x with
    | cons h1 h2 =>
      cases r with
      | cons r1 r2 =>
        obtain ⟨as,q1⟩:=Dw.reads hok KX d _ _ h1 r1
        obtain ⟨bs,q2⟩:=Dw.readsAll hok KX ds _ _ h2 r2
        exact ⟨_,ReadsAllW.cons q1 q2⟩
end
end
mutual
def plW:WData→Bool
  | .none=>true
  | .bool _=>true
  | .int _=>true
  | .str _=>true
  | .bytes _=>true
  | .list xs=>plWs xs
  | .tuple xs=>plWs xs
  | _=>false
def plWs:List WData→Bool
  | []=>true
  | x::r=>plW x && plWs r
end
theorem plWs_map {α:Type} {f:α→WData} (h:∀ a,plW (f a)=true):∀ l:List α,plWs (l.map f)=true
  | []=>rfl
  | x::r=>by
    show (plW (f x) && plWs (r.map f))=true
    rw [h x,plWs_map h r] <;> rfl
theorem pl_enc:∀ (c:Codec) (a:c.denote),plW (c.enc a)=true
  | .unit,_=>rfl
  | .bool,_=>rfl
  | .int _ _,_=>rfl
  | .nat _ _,_=>rfl
  | .u8,_=>rfl
  | .bytes _ _,_=>rfl
  | .text _ _ _ _,_=>rfl
  | .list _ _ c,a=>plWs_map (fun x=>pl_enc c x) a
  | .pair c d,a=>by
    show (plW (c.enc a.1) && (plW (d.enc a.2) && true))=true
    rw [pl_enc c a.1,pl_enc d a.2] <;> rfl
  | .triple c d e,a=>by
    show (plW (c.enc a.1) && (plW (d.enc a.2.1) && (plW (e.enc a.2.2) && true)))=true
    rw [pl_enc c a.1,pl_enc d a.2.1,pl_enc e a.2.2] <;> rfl
  | .option c,none=>rfl
  | .option c,some x=>pl_enc c x
theorem pl_encAll:∀ (cs:List Codec) (a:Codec.denoteAll cs),plWs (Codec.encAll cs a)=true
  | [],_=>rfl
  | c::cs,a=>by
    show (plW (c.enc a.1) && plWs (Codec.encAll cs a.2))=true
    rw [pl_enc c a.1,pl_encAll cs a.2] <;> rfl
theorem weight_mem:∀ {xs:List WData} {d:WData},d∈xs→d.weight≤WData.weightAll xs
  | [],d,h=>absurd h (by simp)
  | x::r,d,h=>by
    show d.weight≤x.weight+1+WData.weightAll r
    rcases List.mem_cons.mp h with e | m
    · rw [e]
      omega
    · have z:=weight_mem m
      omega
def toV:Value→V
  | .none=>.non
  | .bool b=>.bl b
  | .int i _=>.int i
  | .str x _=>.str x
  | .bytes b _=>.byt b
  | .ref a=>.ref a
  | _=>.non
def OkU (A:List Addr):Value→Prop
  | .none=>True
  | .bool _=>True
  | .int _ _=>True
  | .str _ _=>True
  | .bytes _ _=>True
  | .ref a=>a∈A
  | _=>False
theorem OkU.mono {A B:List Addr} (h:∀ a∈A,a∈B):∀ {u:Value},OkU A u→OkU B u:=fun {u} x=>by
  cases u with
  | ref a=>exact h a x
  | none=>trivial
  | bool b=>trivial
  | int i t=>trivial
  | str s t=>trivial
  | bytes b t=>trivial
  | _=>exact False.elim x
theorem relV_toV {A:List Addr} {u:Value} (x:OkU A u):RelV (toV u) u:=by
  cases u with
  | ref a=>rfl
  | none=>rfl
  | bool b=>rfl
  | int i t=>exact ⟨t,rfl⟩
  | str s t=>exact ⟨t,rfl⟩
  | bytes b t=>exact ⟨t,rfl⟩
  | _=>exact False.elim x
theorem vals_toV {A:List Addr}:∀ {vs:List Value},(∀ u∈vs,OkU A u)→Vals (vs.map toV) vs
  | [],_=>.nil
  | u::r,h=>.cons (relV_toV (h u (List.mem_cons_self ..))) (vals_toV fun x hx=>h x (List.mem_cons_of_mem _ hx))
def ArgOb (h:Heap) (A:List Addr) (a:Addr):Prop:=∃ vs:List Value,vs.length≤sizeLine∧(∀ u∈vs,OkU A u) ∧
  (h.get? a=some { cls:=.type "list",data:=.seq vs.toArray }∨h.get? a=some { cls:=.type "tuple",data:=.seq vs.toArray })
theorem ArgOb.mono {h:Heap} {A B:List Addr} {a:Addr} (k:∀ a∈A,a∈B) (x:ArgOb h A a):ArgOb h B a:=by
  obtain ⟨vs,h1,h2,h3⟩:=x
  exact ⟨vs,h1,fun u hu=>(h2 u hu).mono k,h3⟩
theorem wellAll_len {P:Params} {h:Heap}:∀ {vs:List Value} {ds:List WData},WellAll P h vs ds→vs.length=ds.length
  | _,_,.nil=>rfl
  | _,_,.cons _ b=>by
    show _+1=_+1
    rw [wellAll_len b]
theorem well_list {P:Params} {h:Heap} {v:Value} {ds:List WData} (x:Well P h v (.list ds)):∃ (a:Addr) (vs:List Value),v=.ref a∧h.get? a=some { cls:=.type "list",data:=.seq vs.toArray }∧WellAll P h vs ds:=by
  cases x with
  | list ho hall=>exact ⟨_,_,rfl,ho,hall⟩
theorem well_tuple {P:Params} {h:Heap} {v:Value} {ds:List WData} (x:Well P h v (.tuple ds)):∃ (a:Addr) (vs:List Value),v=.ref a∧h.get? a=some { cls:=.type "tuple",data:=.seq vs.toArray }∧WellAll P h vs ds:=by
  cases x with
  | tuple ho hall=>exact ⟨_,_,rfl,ho,hall⟩
theorem well_cons {P:Params} {h:Heap} {us:List Value} {d:WData} {ds:List WData} (x:WellAll P h us (d::ds)):∃ (v:Value) (vs:List Value),us=v::vs∧Well P h v d∧WellAll P h vs ds:=by
  cases x with
  | cons a b=>exact ⟨_,_,rfl,a,b⟩
theorem line_of {n:Nat} (h:n≤1048576):n≤sizeLine:=Nat.le_trans h (by decide)
section
variable {P:Params} {h:Heap}
mutual
theorem area_one:∀ (d:WData) (v:Value),Well P h v d→plW d=true→d.weight≤1048576→∃ A:List Addr,OkU A v∧∀ a∈A,ArgOb h A a
  | .none,_,x,_,_=>by
    cases x
    exact ⟨[],trivial,fun a m=>absurd m (by simp)⟩
  | .bool b,_,x,_,_=>by
    cases x
    exact ⟨[],trivial,fun a m=>absurd m (by simp)⟩
  | .int i,_,x,_,_=>by
    cases x
    exact ⟨[],trivial,fun a m=>absurd m (by simp)⟩
  | .str s,_,x,_,_=>by
    cases x
    exact ⟨[],trivial,fun a m=>absurd m (by simp)⟩
  | .bytes b,_,x,_,_=>by
    cases x
    exact ⟨[],trivial,fun a m=>absurd m (by simp)⟩
  | .list ds,_,x,p,z=>by
    obtain ⟨a,vs,rfl,ho,hall⟩:=well_list x
    have z2:WData.weightAll ds≤1048576:=z
    obtain ⟨A,h1,h2⟩:=area_all ds _ hall p fun d hd=>Nat.le_trans (weight_mem hd) z2
    have k:∀ b∈A,b∈a::A:=fun b hb=>List.mem_cons_of_mem _ hb
    refine ⟨a::A,List.mem_cons_self ..,fun b hb=>?_⟩
    rcases List.mem_cons.mp hb with e | m
    · rw [e]
      exact ⟨vs,line_of (by rw [wellAll_len hall];exact Nat.le_trans (PySem.W.length_le_weightAllW ds) z2),fun u hu=>(h1 u hu).mono k,.inl ho⟩
    · exact (h2 b m).mono k
  | .tuple ds,_,x,p,z=>by
    obtain ⟨a,vs,rfl,ho,hall⟩:=well_tuple x
    have z2:WData.weightAll ds≤1048576:=z
    obtain ⟨A,h1,h2⟩:=area_all ds _ hall p fun d hd=>Nat.le_trans (weight_mem hd) z2
    have k:∀ b∈A,b∈a::A:=fun b hb=>List.mem_cons_of_mem _ hb
    refine ⟨a::A,List.mem_cons_self ..,fun b hb=>?_⟩
    rcases List.mem_cons.mp hb with e | m
    · rw [e]
      exact ⟨vs,line_of (by rw [wellAll_len hall];exact Nat.le_trans (PySem.W.length_le_weightAllW ds) z2),fun u hu=>(h1 u hu).mono k,.inr ho⟩
    · exact (h2 b m).mono k
  | .float _,_,_,p,_=>Bool.noConfusion (show false=true from p)
  | .dict _,_,_,p,_=>Bool.noConfusion (show false=true from p)
  | .bytearray _,_,_,p,_=>Bool.noConfusion (show false=true from p)
  | .set _,_,_,p,_=>Bool.noConfusion (show false=true from p)
  | .frozenset _,_,_,p,_=>Bool.noConfusion (show false=true from p)
  | .obj _ _,_,_,p,_=>Bool.noConfusion (show false=true from p)
theorem area_all:∀ (ds:List WData) (vs:List Value),WellAll P h vs ds→plWs ds=true→(∀ d∈ds,d.weight≤1048576)→∃ A:List Addr,(∀ u∈vs,OkU A u)∧∀ a∈A,ArgOb h A a
  | [],_,x,_,_=>by
    cases x
    exact ⟨[],fun u m=>absurd m (by simp),fun a m=>absurd m (by simp)⟩
  | d::ds,_,x,p,z=>by
    obtain ⟨v,vs,rfl,x1,x2⟩:=well_cons x
    have q:plW d=true∧plWs ds=true:=Bool.and_eq_true_iff.mp p
    obtain ⟨A,a1,a2⟩:=area_one d v x1 q.1 (z d (List.mem_cons_self ..))
    obtain ⟨B,b1,b2⟩:=area_all ds vs x2 q.2 fun e he=>z e (List.mem_cons_of_mem _ he)
    have kA:∀ b∈A,b∈A++B:=fun b hb=>List.mem_append.mpr (.inl hb)
    have kB:∀ b∈B,b∈A++B:=fun b hb=>List.mem_append.mpr (.inr hb)
    refine ⟨A++B,fun u hu=>?_,fun b hb=>?_⟩
    · rcases List.mem_cons.mp hu with e | m
      · rw [e]
        exact a1.mono kA
      · exact (b1 u m).mono kB
    · rcases List.mem_append.mp hb with m | m
      · exact (a2 b m).mono kA
      · exact (b2 b m).mono kB
end
end
def hoOf (o:Obj):Option HO:=match o.data with
  | .seq vs _=>if (o.cls == Value.type "list")=true then some (.frz o (.lst (vs.toList.map toV))) else some (.frz o (.tup (vs.toList.map toV)))
  | _=>none
def argH (K:PySem.W.Frag) (h:Heap) (A:List Addr):Hp:=fun b=>if b∈A then (if (K.lookup b).isNone=true then (h.get? b).bind hoOf else none) else none
def OnlyF (H:Hp):Prop:=∀ b,H b=none∨∃ o u,H b=some (.frz o u)
theorem hoOf_lst (vs:List Value):hoOf { cls:=.type "list",data:=.seq vs.toArray }=some (.frz { cls:=.type "list",data:=.seq vs.toArray } (.lst (vs.map toV))):=by
  show (if (Value.type "list" == Value.type "list")=true then some (HO.frz { cls:=.type "list",data:=.seq vs.toArray } (.lst (vs.toArray.toList.map toV))) else some (HO.frz { cls:=.type "list",data:=.seq vs.toArray } (.tup (vs.toArray.toList.map toV))))=_
  rw [if_pos (beq_self_eq_true _)]
theorem hoOf_tup (vs:List Value):hoOf { cls:=.type "tuple",data:=.seq vs.toArray }=some (.frz { cls:=.type "tuple",data:=.seq vs.toArray } (.tup (vs.map toV))):=by
  show (if (Value.type "tuple" == Value.type "list")=true then some (HO.frz { cls:=.type "tuple",data:=.seq vs.toArray } (.lst (vs.toArray.toList.map toV))) else some (HO.frz { cls:=.type "tuple",data:=.seq vs.toArray } (.tup (vs.toArray.toList.map toV))))=_
  rw [if_neg (by decide)]
section
variable {P:Program} {w:World} {K:PySem.W.Frag} {h:Heap} {A:List Addr}
theorem argH_at {b:Addr} {o:Obj} (hb:b∈A) (hk:K.lookup b=none) (e:h.get? b=some o):argH K h A b=hoOf o:=by
  unfold argH
  rw [if_pos hb,hk,if_pos (show (none:Option Obj).isNone=true from rfl),e] <;> rfl
theorem of_argH {b:Addr} {u:HO} (q:argH K h A b=some u):b∈A∧K.lookup b=none:=by
  unfold argH at q
  by_cases hb:b∈A
  · rw [if_pos hb] at q
    cases hk:K.lookup b with
    | none=>exact ⟨hb,rfl⟩
    | some o =>
      rw [hk,if_neg (by simp)] at q
      cases q
  · rw [if_neg hb] at q
    cases q
theorem argH_is (ar:∀ a∈A,ArgOb h A a) {b:Addr} {u:HO} (q:argH K h A b=some u):K.lookup b=none∧∃ vs:List Value,vs.length≤sizeLine∧(∀ u∈vs,OkU A u) ∧
    ((h.get? b=some { cls:=.type "list",data:=.seq vs.toArray }∧u=.frz { cls:=.type "list",data:=.seq vs.toArray } (.lst (vs.map toV))) ∨
     (h.get? b=some { cls:=.type "tuple",data:=.seq vs.toArray }∧u=.frz { cls:=.type "tuple",data:=.seq vs.toArray } (.tup (vs.map toV)))):=by
  obtain ⟨hb,hk⟩:=of_argH q
  obtain ⟨vs,h1,h2,h3⟩:=ar b hb
  refine ⟨hk,vs,h1,h2,?_⟩
  rcases h3 with e | e
  · rw [argH_at hb hk e,hoOf_lst] at q
    exact .inl ⟨e,(Option.some.inj q).symm⟩
  · rw [argH_at hb hk e,hoOf_tup] at q
    exact .inr ⟨e,(Option.some.inj q).symm⟩
theorem argH_only (ar:∀ a∈A,ArgOb h A a):OnlyF (argH K h A):=fun b=>by
  cases q:argH K h A b with
  | none=>exact .inl rfl
  | some u =>
    obtain ⟨_,vs,_,_,⟨_,e⟩ | ⟨_,e⟩⟩:=argH_is ar q
    · exact .inr ⟨_,_,by rw [e]⟩
    · exact .inr ⟨_,_,by rw [e]⟩
theorem argH_ok (ar:∀ a∈A,ArgOb h A a):HOk P w (argH K h A) h:=fun b u q=>by
  obtain ⟨_,vs,h1,h2,⟨e,rfl⟩ | ⟨e,rfl⟩⟩:=argH_is ar q
  · exact ⟨e,by rw [List.length_map];exact h1,vs,_,vals_toV h2,e⟩
  · exact ⟨e,by rw [List.length_map];exact h1,vs,vals_toV h2,_,e,rfl,_,rfl⟩
theorem seq_inj {c c' : Value} {vs us:List Value} (e:(some { cls:=c,data:=.seq vs.toArray }:Option Obj)=some { cls:=c',data:=.seq us.toArray }):c=c'∧vs=us:=by
  have e1:=Option.some.inj e
  have e2:c=c':=congrArg Obj.cls e1
  have e3:Data.seq vs.toArray=Data.seq us.toArray:=congrArg Obj.data e1
  injection e3 with e4
  refine ⟨e2,?_⟩
  have e5:=congrArg Array.toList e4
  simpa using e5
theorem argL (KX:K.In h) (ar:∀ a∈A,ArgOb h A a) {a:Addr} {vs:List Value} (ha:a∈A) (e:h.get? a=some { cls:=.type "list",data:=.seq vs.toArray }):(∀ u∈vs,OkU A u)∧SqL K (argH K h A) a (vs.map toV):=by
  obtain ⟨us,h1,h2,h3⟩:=ar a ha
  have hu:us=vs:=by
    rcases h3 with q | q
    · rw [e] at q
      exact (seq_inj q).2.symm
    · rw [e] at q
      exact absurd (Value.type.inj (seq_inj q).1) (by decide)
  subst hu
  refine ⟨h2,?_⟩
  cases hk:K.lookup a with
  | none=>exact .inl (.inr ⟨_,by rw [argH_at ha hk e,hoOf_lst]⟩)
  | some o =>
    have e2:=KX a o hk
    rw [e] at e2
    obtain rfl:=Option.some.inj e2
    exact .inr ⟨_,us.toArray,_,hk,rfl,rfl,rfl,by rw [List.size_toArray];exact h1,by simpa using vals_toV h2⟩
theorem argT (KX:K.In h) (ar:∀ a∈A,ArgOb h A a) {a:Addr} {vs:List Value} (ha:a∈A) (e:h.get? a=some { cls:=.type "tuple",data:=.seq vs.toArray }):(∀ u∈vs,OkU A u)∧SqT K (argH K h A) a (vs.map toV):=by
  obtain ⟨us,h1,h2,h3⟩:=ar a ha
  have hu:us=vs:=by
    rcases h3 with q | q
    · rw [e] at q
      exact absurd (Value.type.inj (seq_inj q).1) (by decide)
    · rw [e] at q
      exact (seq_inj q).2.symm
  subst hu
  refine ⟨h2,?_⟩
  cases hk:K.lookup a with
  | none=>exact .inl (.inr ⟨_,by rw [argH_at ha hk e,hoOf_tup]⟩)
  | some o =>
    have e2:=KX a o hk
    rw [e] at e2
    obtain rfl:=Option.some.inj e2
    exact .inr ⟨_,us.toArray,_,hk,rfl,rfl,by rw [List.size_toArray];exact h1,by simpa using vals_toV h2⟩
mutual
theorem dw_one {Pm:Params} (KX:K.In h) (ar:∀ a∈A,ArgOb h A a):∀ (d:WData) (v:Value),Well Pm h v d→plW d=true→OkU A v→Dw K (argH K h A) (toV v) d
  | .none,_,x,_,_=>by
    cases x
    exact .non
  | .bool b,_,x,_,_=>by
    cases x
    exact .bl b
  | .int i,_,x,_,_=>by
    cases x
    exact .int i
  | .str s,_,x,_,_=>by
    cases x
    exact .str s
  | .bytes b,_,x,_,_=>by
    cases x
    have z:=Dw.byt (K:=K) (H:=argH K h A) b.toArray
    exact z
  | .list ds,_,x,p,hu=>by
    obtain ⟨a,vs,rfl,ho,hall⟩:=well_list x
    obtain ⟨h2,hs⟩:=argL KX ar hu ho
    exact .lst hs (dw_all KX ar ds _ hall p h2)
  | .tuple ds,_,x,p,hu=>by
    obtain ⟨a,vs,rfl,ho,hall⟩:=well_tuple x
    obtain ⟨h2,hs⟩:=argT KX ar hu ho
    exact .tup hs (dw_all KX ar ds _ hall p h2)
  | .float _,_,_,p,_=>Bool.noConfusion (show false=true from p)
  | .dict _,_,_,p,_=>Bool.noConfusion (show false=true from p)
  | .bytearray _,_,_,p,_=>Bool.noConfusion (show false=true from p)
  | .set _,_,_,p,_=>Bool.noConfusion (show false=true from p)
  | .frozenset _,_,_,p,_=>Bool.noConfusion (show false=true from p)
  | .obj _ _,_,_,p,_=>Bool.noConfusion (show false=true from p)
theorem dw_all {Pm:Params} (KX:K.In h) (ar:∀ a∈A,ArgOb h A a):∀ (ds:List WData) (vs:List Value),WellAll Pm h vs ds→plWs ds=true→(∀ u∈vs,OkU A u)→DwAll K (argH K h A) (vs.map toV) ds
  | [],_,x,_,_=>by
    cases x
    exact .nil
  | d::ds,_,x,p,hu=>by
    obtain ⟨v,vs,rfl,x1,x2⟩:=well_cons x
    have q:plW d=true∧plWs ds=true:=Bool.and_eq_true_iff.mp p
    exact .cons (dw_one KX ar d v x1 q.1 (hu _ (List.mem_cons_self ..))) (dw_all KX ar ds vs x2 q.2 fun u m=>hu u (List.mem_cons_of_mem _ m))
end
end
theorem spec_call {P:Program} {w:World} {K:PySem.W.Frag} {mg mb:Str→Option Value} {CX:CXT} {k:Nat} {fa:Addr} {fd:FuncData} {ps:List Str} {sp:Sp} {s₁:Shared} {vals:List Value} {ds:List WData} {R:PySem.W.WRecords} {cl:Str→Option Addr} {d0:WData}
    (KX:K.In s₁.heap) (hns:s₁.heap.Ns mainGlobals mg) (hb:s₁.heap.Ns builtinsNs mb) (hbb:∀ x:Str,x ≠ "__name__"→mb x=bootBuiltins x) (hlim:s₁.heap.NoLimit) (hg:s₁.gens = #[])
    (hwl:WellAll w.params s₁.heap vals ds) (hpl:plWs ds=true) (hwt:∀ d∈ds,d.weight≤1048576) (hr:Room k callerA)
    (F:∀ base:Heap,K.In base→base.Ns mainGlobals mg→FnOk P w K mg base CX k fa fd ps sp) (hbind:∀ (s:Shared) (us:List Value),us.length=ps.length→BindsTo s fd ⟨us,[]⟩ (ps.zip us)) (hlen:ds.length=ps.length)
    (hsp:∀ (H:Hp) (xs:List V),OnlyF H→DwAll K H xs ds→sp xs H (fun v H'=>Dw K H' v d0) fun _ _ _=>False)
    (hCX:∀ H e s',CX [] H s₁ (fun _ _ _=>False) e s'→False) :
    codeAny (model P w) callerA (.call (.ref fa) ⟨vals,[]⟩) (fun r s'=>∃ u as,r=.ok (.ret u)∧ReadsW R cl s'.heap u d0 as∧OldK s₁.heap s'.heap∧s'.os=s₁.os∧AllBare s'.gens) s₁:=by
  obtain ⟨A,ho,ar⟩:=area_all ds vals hwl hpl hwt
  have hO:OnlyF (argH K s₁.heap A):=argH_only ar
  have hok:HOk P w (argH K s₁.heap A) s₁.heap:=argH_ok ar
  have hS:=dw_all KX ar ds vals hwl hpl ho
  have hV:=vals_toV ho
  have hK:∀ b u,argH K s₁.heap A b=some u→K.lookup b=none:=fun b u q=>(argH_is ar q).1
  have noA:∀ {b:Addr} {o:Obj} {es:Array DictEntry} {ep:Nat},s₁.heap.get? b=some o→o.data=.dict es ep→argH K s₁.heap A b=none:=fun {b o es ep} e d=>by
    cases q:argH K s₁.heap A b with
    | none=>rfl
    | some u =>
      obtain ⟨_,vs,_,_,⟨e2,_⟩ | ⟨e2,_⟩⟩:=argH_is ar q
      · rw [e2] at e
        cases e
        have d' : Data.seq vs.toArray _=Data.dict es ep:=d
        cases d'
      · rw [e2] at e
        cases e
        have d' : Data.seq vs.toArray _=Data.dict es ep:=d
        cases d'
  generalize argH K s₁.heap A=H at hO hok hS hK noA
  have base_of:∀ {b:Addr} {o:Obj},s₁.heap.get? b=some o→H b=none→(hidT s₁.heap H).get? b=some o:=fun e n=>hidT_get e n
  have nsK:∀ {b:Addr} {m:Str→Option Value},s₁.heap.Ns b m→(hidT s₁.heap H).Ns b m:=fun {b m} ⟨o,es,ep,e,d,r⟩=>⟨o,es,ep,base_of e (noA e d),d,r⟩
  have nK:∀ b o,K.lookup b=some o→H b=none:=fun b o e=>by
    cases q:H b with
    | none=>rfl
    | some u =>
      rw [hK b u q] at e
      cases e
  have hKb:K.In (hidT s₁.heap H):=fun b o e=>base_of (KX b o e) (nK b o e)
  have hM:Mod K mg (hidT s₁.heap H):=⟨hKb,nsK hns,⟨mb,nsK hb,hbb⟩,let ⟨mc,h1,h2⟩:=hlim;⟨mc,nsK h1,h2⟩⟩
  have e0:Env0 P w K mg (hidT s₁.heap H) callerA [] s₁ H:=⟨rfl,hM,fun b o e=>of_hidT e,Nat.le_of_eq (hidT_size _ _),trivial,fun b hb=>absurd (show b∈([]:List Addr) from hb) (by simp),hok,.of_eq hg⟩
  have hl:vals.length=ps.length:=by rw [wellAll_len hwl];exact hlen
  refine codeAny_mono ((F _ hKb (nsK hns)).run callerA [] s₁ H ⟨vals,[]⟩ vals (vals.map toV) _ _ hr e0 (hbind s₁ vals hl) hV (hsp H _ hO hS)) fun r s' x=>?_
  cases r with
  | error e=>exact (hCX H e s' x).elim
  | ok fl =>
    cases fl with
    | next=>exact False.elim x
    | brk=>exact False.elim x
    | cont=>exact False.elim x
    | ret u =>
      obtain ⟨v,H',os,bare,un,hok',r',q⟩:=x
      have kept:∀ b o,s₁.heap.get? b=some o→s'.heap.get? b=some o:=fun b o e=>by
        cases q2:H b with
        | none=>exact un.keep b o e q2 (by intro z;exact absurd (show b∈([]:List Addr) from z) (by simp)) (by simp)
        | some u2 =>
          rcases hO b with z | ⟨ob,u3,z⟩
          · rw [q2] at z
            cases z
          · have z2:=un.frzs b ob _ z
            obtain ⟨e1,_⟩:=hok b _ z
            obtain ⟨e2,_⟩:=hok' b _ z2
            rw [e] at e1
            cases e1
            exact e2
      have KX' : K.In s'.heap:=fun b o e=>kept b o (KX b o e)
      obtain ⟨as,hrd⟩:=Dw.reads (R:=R) (cl:=cl) hok' KX' d0 v u q r'
      exact ⟨u,as,rfl,hrd,OldK.of_keep kept,os,bare⟩
theorem layable_weight {ds:List WData} (h:WData.layableAll ds=true):∀ d∈ds,d.weight≤1048576:=fun d hd =>
  (PySem.W.layableW_iff.mp (List.all_eq_true.mp h d hd)).2.2
theorem encAll_len:∀ (cs:List Codec) (a:Codec.denoteAll cs),(Codec.encAll cs a).length=cs.length
  | [],_=>rfl
  | c::cs,a=>by
    show (Codec.encAll cs a.2).length+1=cs.length+1
    rw [encAll_len cs a.2]
theorem walk_spec {r:OpenSpec} {k:Nat} {q:Program} {loose:List Str} {XP:(Str→Option Value)→Heap→Prop} {YP:World→Heap→Prop} {d:DefRec} {K:Params→PySem.W.Frag} {CX:World→CXT} {ps:List Str} {sp:World→Sp}
    (hwell:r.wellSaid=true) (hdf:d.params.defaults=[]) (hlen:r.args.length=ps.length) (hr:Room k callerA)
    (hY:∀ (w:World) (h:Heap),YP w h→(K w.params).In h)
    (F:∀ (w:World) (mg:Str→Option Value) (fa:Addr) (h:Heap),YP w h→(K w.params).In h→h.Ns mainGlobals mg→mg d.name=some (.ref fa) →
      ∃ fd:FuncData,(∀ (s:Shared) (us:List Value),us.length=ps.length→BindsTo s fd ⟨us,[]⟩ (ps.zip us)) ∧
        ∀ base:Heap,(K w.params).In base→base.Ns mainGlobals mg→FnOk r.prog w (K w.params) mg base (CX w) k fa fd ps (sp w))
    (hsp:∀ (w:World) (H:Hp) (xs:List V) (a:Codec.denoteAll r.args),OnlyF H→Codec.withinAll r.args a=true→Codec.app r.args r.asked a=true→DwAll (K w.params) H xs (Codec.encAll r.args a) →
      sp w xs H (fun v H'=>Dw (K w.params) H' v (r.ret.enc (Codec.app r.args r.f a))) fun _ _ _=>False)
    (hCX:∀ (w:World) (H:Hp) (s:Shared) (e:Value) (s' : Shared),CX w [] H s (fun _ _ _=>False) e s'→False) :
    PySem.W.WalkOS q loose XP YP r d [] (fun f vs=>PySem.call f vs):=by
  intro w s_0 s₁ mg mb G Y fa o pm cd doc dV kV ho hd hcd hD hmg hg args vals as hpre hlay hrd hwl hlo
  obtain ⟨a,e1,e2⟩:=PySem.W.os_pre_some hpre
  obtain ⟨e3,hwi⟩:=Codec.encAll_of_decAll r.args args a e1
  subst e3
  have KX:=hY w _ Y
  obtain ⟨fd,hb,hF⟩:=F w mg fa _ Y KX G.T.g hmg
  refine PySem.W.enter_call (codeAny_mono (spec_call (R:=[]) (cl:=classAt s_0.heap) (d0:=r.ret.enc (Codec.app r.args r.f a)) KX G.T.g G.T.b G.T.builtins G.T.nolimit hg hwl (pl_encAll _ _) (layable_weight hlay) hr hF hb (by rw [encAll_len];exact hlen)
    (fun H xs hO hS=>hsp w H xs a hO hwi e2 hS) fun H e s'=>hCX w H s₁ e s') fun r' s' hq=>?_)
  obtain ⟨u,as',rfl,h1,h2,h3,h4⟩:=hq
  exact ⟨.inl ⟨u,_,as',rfl,fun _=>rfl,h1,(OpenSpec.post_iff hwell hwi _ _).mpr rfl,fun z=>Bool.noConfusion (show false=true from z)⟩,h2,h3,h4⟩
theorem walk_specK {r:OpenSpec} {k:Nat} {q:Program} {loose:List Str} {XP:(Str→Option Value)→Heap→Prop} {YP:World→Heap→Prop} {d:DefRec} {K:Params→PySem.W.Frag} {CX:CXT} {ps:List Str} {sp:PySem.W.Frag→Sp}
    (hwell:r.wellSaid=true) (hdf:d.params.defaults=[]) (hlen:r.args.length=ps.length) (hr:Room k callerA)
    (hY:∀ (w:World) (h:Heap),YP w h→(K w.params).In h)
    (F:∀ (w:World) (mg:Str→Option Value) (fa:Addr) (h:Heap),YP w h→(K w.params).In h→h.Ns mainGlobals mg→mg d.name=some (.ref fa) →
      ∃ fd:FuncData,(∀ (s:Shared) (us:List Value),us.length=ps.length→BindsTo s fd ⟨us,[]⟩ (ps.zip us)) ∧
        ∀ base:Heap,(K w.params).In base→base.Ns mainGlobals mg→FnOk r.prog w (K w.params) mg base CX k fa fd ps (sp (K w.params)))
    (hsp:∀ (K:PySem.W.Frag) (H:Hp) (xs:List V) (a:Codec.denoteAll r.args),OnlyF H→Codec.withinAll r.args a=true→Codec.app r.args r.asked a=true→DwAll K H xs (Codec.encAll r.args a) →
      sp K xs H (fun v H'=>Dw K H' v (r.ret.enc (Codec.app r.args r.f a))) fun _ _ _=>False)
    (hCX:∀ (H:Hp) (s:Shared) (e:Value) (s' : Shared),CX [] H s (fun _ _ _=>False) e s'→False) :
    PySem.W.WalkOS q loose XP YP r d [] (fun f vs=>PySem.call f vs) :=
  walk_spec (K:=K) (CX:=fun _=>CX) (sp:=fun w=>sp (K w.params)) hwell hdf hlen hr hY F (fun w H xs a h1 h2 h3 h4=>hsp (K w.params) H xs a h1 h2 h3 h4) fun _ H s e s'=>hCX H s e s'
end L2
end
section
set_option Elab.async false
set_option linter.all false
set_option maxRecDepth 100000
set_option maxHeartbeats 4000000
namespace Pn
open PySem PySem.Spec PyProof.Rows L2
def GlV (mg:Str→Option Value) (x:Str) (v:V):Prop:=∃ u,mg x=some u∧RelV v u
theorem pe_glV {X:Cx} {x:Str} {v:V} {pos:Pos} (hg:Gl X x) (h:GlV X.mg x v) (hd:(x == ("__debug__" : Str))=false:=by decide):PE X (.Name x pos) (tC v):=by
  obtain ⟨u,hm,r⟩:=h
  exact pe_glob hg hm r hd
structure Df (P:Program) (w:World) (K:PySem.W.Frag) (mg:Str→Option Value) (base:Heap) (x:Str) (ps:List Str) (k:Nat) (sp:Sp):Prop where
  ex:∃ f fd,FnOk P w K mg base CX0 k f fd ps sp∧mg x=some (.ref f)∧PySem.W.keepIn K (.ref f)=true∧Binds K fd ps []
theorem pe_callD {X:Cx} {k:Nat} {ps:List Str} {sp:Sp} {x:Str} {p pos:Pos} {e:Expr} {es:List Expr} {t:TA} (D:Df X.prog X.w X.K X.mg X.base x ps k sp) (hr:Room k X.A) (hg:Gl X x) (ha:PA X (e::es) t)
    (hdb:(x == ("__debug__" : Str))=false:=by decide) (he:starEach (e::es) X.env=(false,eval e X.env)::starEach es X.env:=by rfl) (hpl:(backTo pos (starEach es X.env)).any (·.1)=false:=by rfl) :
    PE X (.Call (.Name x p) (e::es) [] pos) (tCall sp [] E0 t):=by
  obtain ⟨f,fd,F,hm,hk,hb⟩:=D.ex
  exact pe_call F hr hg hm hk hb .nil pass0 ha hdb he hpl
structure Dm (P:Program) (w:World) (K:PySem.W.Frag) (mg:Str→Option Value) (base:Heap) (x:Str) (C:Addr) (ps:List Str) (k:Nat) (sp:Sp):Prop where
  ex:∃ f fd,Mk K C f∧FnOk P w K mg base CX0 k f fd ps sp∧mg x=some (.ref C)∧Binds K fd ps []
theorem pe_makeD {X:Cx} {k:Nat} {C:Addr} {ps:List Str} {sp:Sp} {x:Str} {p pos:Pos} (D:Dm X.prog X.w X.K X.mg X.base x C ps k sp) (hr:Room (k+1) X.A) (hg:Gl X x) (hdb:(x == ("__debug__" : Str))=false:=by decide) :
    PE X (.Call (.Name x p) [] [] pos) (tMake C sp [] E0 tNil):=by
  obtain ⟨f,fd,M,F,hm,hb⟩:=D.ex
  exact pe_make0 M F hr hg hm hb .nil pass0 hdb
theorem pe_makeA {X:Cx} {k:Nat} {C:Addr} {ps:List Str} {sp:Sp} {x:Str} {p pos:Pos} {e:Expr} {es:List Expr} {t:TA} (D:Dm X.prog X.w X.K X.mg X.base x C ps k sp) (hr:Room (k+1) X.A) (hg:Gl X x) (ha:PA X (e::es) t)
    (hdb:(x == ("__debug__" : Str))=false:=by decide) (he:starEach (e::es) X.env=(false,eval e X.env)::starEach es X.env:=by rfl) (hpl:(backTo pos (starEach es X.env)).any (·.1)=false:=by rfl) :
    PE X (.Call (.Name x p) (e::es) [] pos) (tMake C sp [] E0 t):=by
  obtain ⟨f,fd,M,F,hm,hb⟩:=D.ex
  exact pe_make M F hr hg hm hb .nil pass0 ha hdb he hpl
def top (i:Nat):Stmt:=PySem.Challenge.pw_pairnets_s01_answers.main.body.getD i (.Pass ⟨0,0,0,0⟩)
abbrev s_Record___init__:Stmt:=inClass (top 5) 0
abbrev s_Rule___init__:Stmt:=inClass (top 6) 0
abbrev s_rule_key:Stmt:=top 7
abbrev s_is_symbol:Stmt:=top 8
abbrev s_is_point:Stmt:=top 9
abbrev s_joined_to:Stmt:=top 10
abbrev s_is_whole:Stmt:=top 11
abbrev s_read_agent:Stmt:=top 23
abbrev s_read_name:Stmt:=top 24
abbrev s_count_agents:Stmt:=top 25
abbrev s_add_symbol:Stmt:=top 33
abbrev s_add_rule:Stmt:=top 34
abbrev s_new_symbols:Stmt:=top 35
abbrev s_wire_places:Stmt:=top 36
abbrev s_is_rule_row:Stmt:=top 37
abbrev s_needed_places:Stmt:=top 38
abbrev s_find_mates:Stmt:=top 39
abbrev s_is_even:Stmt:=top 40
abbrev s_keeps_old_wires:Stmt:=top 41
abbrev s_can_follow:Stmt:=top 42
abbrev s_is_placed:Stmt:=top 43
abbrev s_moved:Stmt:=top 44
abbrev s_exchanged:Stmt:=top 45
abbrev s_Matching___init__:Stmt:=inClass (top 47) 0
abbrev s_tell_same:Stmt:=top 48
abbrev s_is_same_net:Stmt:=top 49
abbrev s_names_fit:Stmt:=top 50
abbrev s_is_port:Stmt:=top 51
abbrev s_match_part:Stmt:=top 52
abbrev s_match_agents:Stmt:=top 53
abbrev s_match_waiting:Stmt:=top 54
abbrev s_match_points:Stmt:=top 55
abbrev s_add_agent:Stmt:=top 58
abbrev s_lowest_free:Stmt:=top 59
abbrev s_join_points:Stmt:=top 60
abbrev s_part_point:Stmt:=top 61
abbrev s_tell_pairs:Stmt:=top 62
abbrev s_is_pair:Stmt:=top 63
abbrev s_take_step:Stmt:=top 67
abbrev s_run_steps:Stmt:=top 68
abbrev s_lowest_pair:Stmt:=top 69
abbrev s_facing_agent:Stmt:=top 70
abbrev s_rule_at:Stmt:=top 71
abbrev s_has_room:Stmt:=top 72
abbrev s_rewrite_pair:Stmt:=top 73
abbrev s_old_places:Stmt:=top 74
abbrev s_inner_joins:Stmt:=top 75
abbrev s_outer_ends:Stmt:=top 76
abbrev s_take_out_pair:Stmt:=top 77
abbrev s_bring_new_agents:Stmt:=top 78
abbrev s_far_place:Stmt:=top 79
abbrev s_answers:Stmt:=top 95
abbrev s_call_end:Stmt:=top 96
abbrev s_answer_call:Stmt:=top 97
abbrev s_make_record:Stmt:=top 98
abbrev s_compare_records:Stmt:=top 99
abbrev s_build_record:Stmt:=top 100
abbrev s_rewrite_record:Stmt:=top 101
abbrev s_look_at_record:Stmt:=top 102
structure Txt (K:PySem.W.Frag) (mg:Str→Option Value) (C CR:Addr):Prop where
  cl:Cls K C
  clR:Cls K CR
  nMore:NoAttr K C "more_ports"
  nRules:NoAttr K C "rules"
  nAgents:NoAttr K C "agents"
  nJoined:NoAttr K C "joined"
  nFirst:NoAttr K CR "first"
  nSymbols:NoAttr K CR "symbols"
  nMates:NoAttr K CR "mates"
  c_PORTS_APART:GlV mg "PORTS_APART" (.int (4))
  c_FIRST_NAME:GlV mg "FIRST_NAME" (.int (256))
  c_NAME_COUNT:GlV mg "NAME_COUNT" (.int (16))
  c_NOTHING:GlV mg "NOTHING" (.int (999))
  c_TOO_HIGH:GlV mg "TOO_HIGH" (.int (-1))
  c_FULL:GlV mg "FULL" (.int (-2))
  c_NO_ROOM:GlV mg "NO_ROOM" (.int (-3))
  c_NOT_THERE:GlV mg "NOT_THERE" (.int (-4))
  c_TAKEN:GlV mg "TAKEN" (.int (-5))
  c_NOT_JOINED:GlV mg "NOT_JOINED" (.int (-5))
  c_NO_RULE_ROW:GlV mg "NO_RULE_ROW" (.int (-6))
  c_UNEVEN:GlV mg "UNEVEN" (.int (-7))
  c_NOT_WHOLE:GlV mg "NOT_WHOLE" (.int (-9))
  c_NO_RECORD:GlV mg "NO_RECORD" (.int (-10))
  c_SYMBOL_LIMIT:GlV mg "SYMBOL_LIMIT" (.int (16))
  c_MORE_PORTS_LIMIT:GlV mg "MORE_PORTS_LIMIT" (.int (3))
  c_NEW_AGENT_LIMIT:GlV mg "NEW_AGENT_LIMIT" (.int (6))
  c_FIRST_OLD:GlV mg "FIRST_OLD" (.int (64))
  c_SECOND_OLD:GlV mg "SECOND_OLD" (.int (80))
  c_OLD_APART:GlV mg "OLD_APART" (.int (16))
  c_AGENT_LIMIT:GlV mg "AGENT_LIMIT" (.int (64))
  c_STEP_LIMIT:GlV mg "STEP_LIMIT" (.int (200))
  c_NO_PAIR:GlV mg "NO_PAIR" (.int (-1))
  c_OPEN_CALL:GlV mg "OPEN_CALL" (.int (1))
  c_SYMBOL_CALL:GlV mg "SYMBOL_CALL" (.int (2))
  c_RULE_CALL:GlV mg "RULE_CALL" (.int (3))
  c_AGENT_CALL:GlV mg "AGENT_CALL" (.int (4))
  c_JOIN_CALL:GlV mg "JOIN_CALL" (.int (5))
  c_PAIRS_CALL:GlV mg "PAIRS_CALL" (.int (7))
  c_STEP_CALL:GlV mg "STEP_CALL" (.int (8))
  c_RUN_CALL:GlV mg "RUN_CALL" (.int (9))
  c_READ_CALL:GlV mg "READ_CALL" (.int (10))
  c_NAME_CALL:GlV mg "NAME_CALL" (.int (11))
  c_COUNT_CALL:GlV mg "COUNT_CALL" (.int (12))
  c_SAME_CALL:GlV mg "SAME_CALL" (.int (13))
  c_HIGHEST_RECORD:GlV mg "HIGHEST_RECORD" (.int (1))
  b_enumerate:mg "enumerate" = none
  b_len:mg "len" = none
  b_max:mg "max" = none
  b_min:mg "min" = none
  b_range:mg "range" = none
  b_sorted:mg "sorted" = none
structure RuleAd where
  q:Addr
  dq:Addr
  sy:Addr
  ma:Addr
structure RecAd where
  p:Addr
  dx:Addr
  mp:Addr
  ru:Addr
  ag:Addr
  jo:Addr
  rl:List RuleAd
def RuleAd.fp (a:RuleAd):List Addr:=[a.q,a.sy,a.ma]
def RecAd.fp (A:RecAd):List Addr:=A.p::A.mp::A.ru::A.ag::A.jo::A.rl.flatMap RuleAd.fp
structure Apart (A:RecAd):Prop where
  pm:A.p≠A.mp
  pr:A.p≠A.ru
  pa:A.p≠A.ag
  pj:A.p≠A.jo
  mr:A.mp≠A.ru
  ma:A.mp≠A.ag
  mj:A.mp≠A.jo
  ra:A.ru≠A.ag
  rj:A.ru≠A.jo
  aj:A.ag≠A.jo
  rl:∀ a∈A.rl,∀ b∈a.fp,b≠A.p∧b≠A.mp∧b≠A.ru∧b≠A.ag∧b≠A.jo
def recF (A:RecAd):List (Str × V):=[("more_ports",.ref A.mp),("rules",.ref A.ru),("agents",.ref A.ag),("joined",.ref A.jo)]
def ruleF (a:RuleAd) (R:Nets.Rule):List (Str × V):=[("first",.int (R.s:Int)),("symbols",.ref a.sy),("mates",.ref a.ma)]
theorem recF_more (A:RecAd):(recF A).lookup ("more_ports" : Str)=some (.ref A.mp):=rfl
theorem recF_rules (A:RecAd):(recF A).lookup ("rules" : Str)=some (.ref A.ru):=rfl
theorem recF_agents (A:RecAd):(recF A).lookup ("agents" : Str)=some (.ref A.ag):=rfl
theorem recF_joined (A:RecAd):(recF A).lookup ("joined" : Str)=some (.ref A.jo):=rfl
theorem ruleF_first (a:RuleAd) (R:Nets.Rule):(ruleF a R).lookup ("first" : Str)=some (.int (R.s:Int)):=rfl
theorem ruleF_symbols (a:RuleAd) (R:Nets.Rule):(ruleF a R).lookup ("symbols" : Str)=some (.ref a.sy):=rfl
theorem ruleF_mates (a:RuleAd) (R:Nets.Rule):(ruleF a R).lookup ("mates" : Str)=some (.ref a.ma):=rfl
abbrev nV (n:Nat):V:=V.int (n:Int)
abbrev nats (l:List Nat):List V:=l.map nV
structure DictIs (kvs:List (Key × V)) (f:Nat→Option Nat):Prop where
  nd:(kvs.map (·.1)).Nodup
  val:∀ n:Nat,valV kvs (.inl (n:Int))=(f n).map nV
  key:∀ k∈kvs.map (·.1),∃ n:Nat,k=.inl (n:Int)
def keyOf (s t:Nat):List Key:=[.inl ((min s t:Nat):Int),.inl ((max s t:Nat):Int)]
def rulesK (l:List RuleAd) (rs:List Nets.Rule):List (List Key × V):=(l.zip rs).map fun x=>(keyOf x.2.s x.2.t,V.ref x.1.q)
structure RuleAt (CR:Addr) (H:Hp) (a:RuleAd) (R:Nets.Rule):Prop where
  obj:H a.q=some (.ins CR a.dq (ruleF a R))
  sy:H a.sy=some (.lst (nats R.news))
  ma:∃ kvs,H a.ma=some (.dK kvs)∧DictIs kvs R.other
structure RecAt (C CR:Addr) (H:Hp) (A:RecAd) (r:Nets.Rec):Prop where
  ap:Apart A
  obj:H A.p=some (.ins C A.dx (recF A))
  mp:H A.mp=some (.lst (nats r.arity))
  ag:∃ kvs,H A.ag=some (.dK kvs)∧DictIs kvs r.symAt
  jo:∃ kvs,H A.jo=some (.dK kvs)∧DictIs kvs r.at_
  ru:H A.ru=some (.dT (rulesK A.rl r.rules))
  rlen:A.rl.length=r.rules.length
  rule:∀ (i:Nat) (a:RuleAd) (R:Nets.Rule),A.rl[i]?=some a→r.rules[i]?=some R→RuleAt CR H a R
structure RecOk (r:Nets.Rec):Prop where
  ar3:∀ n∈r.arity,n≤3
  ar16:r.arity.length≤16
  sl:r.sym.length=64
  ll:r.link.length=272
  symOk:∀ a s,r.symAt a=some s→s<r.arity.length
  linkOk:∀ x y,r.at_ x=some y→r.isPort x=true∧r.isPort y=true∧r.at_ y=some x∧x≠y
section
variable {P:Program} {w:World} {K:PySem.W.Frag} {mg:Str→Option Value} {base:Heap} {C CR:Addr}
def spIsSymbol (C CR:Addr):Sp:=fun vs H Q _=>∃ A r n,vs=[.ref A.p,.int n]∧RecAt C CR H A r∧Q (.bl (decide (n<(r.arity.length:Int)))) H
theorem sc_is_symbol:FnScope ["record", "s"] ["record", "s"] (defScope s_is_symbol):=⟨rfl,rfl,rfl,by decide +kernel,rfl,by decide +kernel,by decide +kernel⟩
theorem ok_is_symbol {f:Addr} {fd:FuncData} (F:Fun K "is_symbol" "is_symbol" s_is_symbol f fd) (T:Txt K mg C CR):FnOk P w K mg base CX0 1 f fd ["record", "s"] (spIsSymbol C CR):=by
  refine F.ok sc_is_symbol (fun vs H Q E h=>?_) (fun cdv A0 outer s H vs Q E hr h=>?_)
  · obtain ⟨A,r,n,rfl,_⟩:=h
    rfl
  · obtain ⟨A,r,n,rfl,h1,k⟩:=h
    have nd:=sc_is_symbol.nd
    refine ⟨_,(pss_one (ps_ret (pe_cmpR op_lt (pv 1) (pe_callB call_len_seq (by rfl) T.b_len PySem.boot_len (pa_cons (pe_fld (pv 0) rfl) pa_nil)) (nomark _)))),?_⟩
    refine ⟨_,rfl,_,rfl,A.p,C,A.dx,_,_,rfl,h1.obj,T.cl,T.nMore,recF_more A,A.mp,_,rfl,.inl (SqL.of h1.mp),_,_,rfl,rfl,?_⟩
    simpa using k
end
section
variable {P:Program} {w:World} {K:PySem.W.Frag} {mg:Str→Option Value} {base:Heap} {C CR:Addr}
theorem qe {Q:VK} {v v' : V} {H:Hp} (k:Q v H) (e:v=v'):Q v' H:=e ▸ k
theorem vint {a b:Int} (h:a=b):V.int a=V.int b:=congrArg _ h
theorem vbl {a b:Bool} (h:a=b):V.bl a=V.bl b:=congrArg _ h
theorem nats_get {l:List Nat} {i:Nat} (h:i<l.length):(nats l)[i]?=some (nV (l.getD i 0)):=by
  rw [List.getElem?_map,List.getElem?_eq_getElem h,List.getD_eq_getElem?_getD,List.getElem?_eq_getElem h]
  rfl
theorem nats_at {l:List Nat} {i:Nat} (h:i<l.length):atI (nats l) (i:Int)=some (nV (l.getD i 0)):=atI_nat (nats_get h)
theorem RecOk.ofLt {r:Nets.Rec} (ok:RecOk r) {a s:Nat} (h:r.symAt a=some s):s<r.arity.length:=ok.symOk a s h
def spIsPoint (C CR:Addr):Sp:=fun vs H Q _=>∃ (A:RecAd) (r:Nets.Rec) (n:Nat),vs=[.ref A.p,nV n]∧RecAt C CR H A r∧RecOk r∧Q (.bl (r.isPort n)) H
theorem sc_is_point:FnScope ["record", "point", "agent"] ["record", "point"] (defScope s_is_point):=⟨rfl,rfl,rfl,by decide +kernel,rfl,by decide +kernel,by decide +kernel⟩
theorem ok_is_point {f:Addr} {fd:FuncData} (F:Fun K "is_point" "is_point" s_is_point f fd) (T:Txt K mg C CR):FnOk P w K mg base CX0 1 f fd ["record", "point"] (spIsPoint C CR):=by
  refine F.ok sc_is_point (fun vs H Q E h=>?_) (fun cdv A0 outer s H vs Q E hr h=>?_)
  · obtain ⟨A,r,n,rfl,_⟩:=h
    rfl
  · obtain ⟨A,r,n,rfl,h1,ok,k⟩:=h
    have nd:=sc_is_point.nd
    have hu:=hu_of hr
    refine ⟨_,(pss_cons (ps_if (pt_cmpR op_ge (pv 1) (pe_glV rfl T.c_FIRST_NAME) (nomark _)) (pss_one (ps_ret (pe_cmpR op_lt (pv 1) (pe_op op_add (pe_glV rfl T.c_FIRST_NAME) (pe_glV rfl T.c_NAME_COUNT)) (nomark _)))) pss_nil) (pss_cons (ps_set (i:=2) nd rfl (Or.inl rfl) (pe_op op_fdiv (pv 1) (pe_glV rfl T.c_PORTS_APART))) (pss_cons (ps_if (pt_cmp (pc_dnotin hu (pv 2) (pe_fld (pv 0) rfl))) (pss_one (ps_ret pe_bl)) pss_nil) (pss_one (ps_ret (pe_cmpR op_le (pe_op op_mod (pv 1) (pe_glV rfl T.c_PORTS_APART)) (pe_ix ix_list (pe_fld (pv 0) rfl) (pe_dget hu (pe_fld (pv 0) rfl) (pv 2) (fun _ _=>rfl)) (fun _ _=>rfl)) (nomark _))))))),?_⟩
    refine ⟨_,rfl,_,_,rfl,rfl,_,rfl,ite2 (fun c=>?_) (fun c=>?_)⟩
    · have c:(256:Int)≤n:=of_decide_eq_true c
      refine ⟨_,rfl,_,_,rfl,rfl,_,_,rfl,rfl,?_⟩
      have e:r.isPort n=decide ((n:Int)<256+16):=by
        unfold Nets.Rec.isPort
        rw [if_pos (show Nets.NAMES≤n by unfold Nets.NAMES;omega)]
        exact decide_eq_decide.mpr (by unfold Nets.NAMES Nets.FREE;omega)
      rw [e] at k
      exact k
    · have c:¬ (256:Int)≤n:=fun z=>c (decide_eq_true z)
      obtain ⟨kvs,hag,dag⟩:=h1.ag
      refine ⟨_,rfl,_,_,rfl,rfl,⟨by decide,by decide⟩,_,rfl,_,rfl,A.p,C,A.dx,_,_,rfl,h1.obj,T.cl,T.nAgents,recF_agents A,A.ag,_,rfl,DGet.k (k:=Sum.inl ((n / 4:Nat):Int)) hag,_,rfl,?_⟩
      rw [dag.val (n / 4)]
      have e0:r.isPort n=match r.symAt (n / 4) with | some s=>decide (n%4≤r.of s) | none=>false:=by
        unfold Nets.Rec.isPort
        rw [if_neg (show ¬ Nets.NAMES≤n by unfold Nets.NAMES;omega)]
        rfl
      cases hs:r.symAt (n / 4) with
      | none =>
        rw [hs] at e0
        rw [e0] at k
        exact iteT k
      | some sy =>
        rw [hs] at e0
        have hlt:=ok.ofLt hs
        refine iteF ⟨_,rfl,_,_,rfl,rfl,(by show (0:Int)<4;decide),_,rfl,A.p,C,A.dx,_,_,rfl,h1.obj,T.cl,T.nMore,recF_more A,
          _,rfl,A.p,C,A.dx,_,_,rfl,h1.obj,T.cl,T.nAgents,recF_agents A,_,rfl,A.ag,nV sy,rfl,?_,A.mp,_,(sy:Int),nV (r.of sy),rfl,rfl,SqL.of h1.mp,?_,_,_,rfl,rfl,?_⟩
        · have q:=DGet.k (H:=H) (k:=Sum.inl ((n / 4:Nat):Int)) hag
          rw [dag.val (n / 4),hs] at q
          exact q
        · exact nats_at hlt
        · have e1:r.isPort n=decide ((n:Int)%4≤((r.of sy:Nat):Int)):=by
            rw [e0]
            exact decide_eq_decide.mpr (by omega)
          rw [e1] at k
          exact k
def exN (n:Nat):Nat:=if 80≤n then n - 16 else n+16
def spExchanged:Sp:=fun vs H Q _=>∃ (n:Nat),vs=[nV n]∧Q (nV (exN n)) H
theorem sc_exchanged:FnScope ["place"] ["place"] (defScope s_exchanged):=⟨rfl,rfl,rfl,by decide +kernel,rfl,by decide +kernel,by decide +kernel⟩
theorem ok_exchanged {f:Addr} {fd:FuncData} (F:Fun K "exchanged" "exchanged" s_exchanged f fd) (T:Txt K mg C CR):FnOk P w K mg base CX0 1 f fd ["place"] spExchanged:=by
  refine F.ok sc_exchanged (fun vs H Q E h=>?_) (fun cdv A0 outer s H vs Q E hr h=>?_)
  · obtain ⟨n,rfl,_⟩:=h
    rfl
  · obtain ⟨n,rfl,k⟩:=h
    refine ⟨_,(pss_cons (ps_if (pt_cmpR op_ge (pv 0) (pe_glV rfl T.c_SECOND_OLD) (nomark _)) (pss_one (ps_ret (pe_op op_sub (pv 0) (pe_glV rfl T.c_OLD_APART)))) pss_nil) (pss_one (ps_ret (pe_op op_add (pv 0) (pe_glV rfl T.c_OLD_APART))))),?_⟩
    unfold exN at k
    refine ⟨_,rfl,_,_,rfl,rfl,_,rfl,ite2 (fun c=>?_) (fun c=>?_)⟩
    · have c:(80:Int)≤n:=of_decide_eq_true c
      rw [if_pos (show 80≤n by omega)] at k
      refine ⟨_,rfl,_,_,rfl,rfl,?_⟩
      exact qe k (vint (by omega))
    · have c:¬ (80:Int)≤n:=fun z=>c (decide_eq_true z)
      rw [if_neg (show ¬ 80≤n by omega)] at k
      refine ⟨_,rfl,_,_,rfl,rfl,?_⟩
      exact qe k (vint (by omega))
def spMoved:Sp:=fun vs H Q _=>∃ (n:Nat) (o:Addr) (order:List Nat),vs=[nV n,.ref o]∧H o=some (.lst (nats order))∧(n<64→n / 4<order.length)∧Q (nV (Nets.exchanged order n)) H
theorem sc_moved:FnScope ["place", "order"] ["place", "order"] (defScope s_moved):=⟨rfl,rfl,rfl,by decide +kernel,rfl,by decide +kernel,by decide +kernel⟩
theorem ok_moved {f:Addr} {fd:FuncData} (F:Fun K "moved" "moved" s_moved f fd) (T:Txt K mg C CR) (D_exchanged:Df P w K mg base "exchanged" ["place"] 1 spExchanged):FnOk P w K mg base CX0 2 f fd ["place", "order"] spMoved:=by
  refine F.ok sc_moved (fun vs H Q E h=>?_) (fun cdv A0 outer s H vs Q E hr h=>?_)
  · obtain ⟨n,o,order,rfl,_⟩:=h
    rfl
  · obtain ⟨n,o,order,rfl,ho,hl,k⟩:=h
    refine ⟨_,(pss_cons (ps_if (pt_cmpR op_ge (pv 0) (pe_glV rfl T.c_FIRST_OLD) (nomark _)) (pss_one (ps_ret (pe_callD D_exchanged (hr.mono (by decide)) rfl (pa_cons (pv 0) pa_nil)))) pss_nil) (pss_one (ps_ret (pe_op op_add (pe_op op_mul (pe_glV rfl T.c_PORTS_APART) (pe_ix ix_list (pv 1) (pe_op op_fdiv (pv 0) (pe_glV rfl T.c_PORTS_APART)) (fun _ _=>rfl))) (pe_op op_mod (pv 0) (pe_glV rfl T.c_PORTS_APART)))))),?_⟩
    unfold Nets.exchanged at k
    refine ⟨_,rfl,_,_,rfl,rfl,_,rfl,ite2 (fun c=>?_) (fun c=>?_)⟩
    · have c:(64:Int)≤n:=of_decide_eq_true c
      rw [if_neg (show ¬ n<64 by omega)] at k
      refine ⟨_,rfl,n,rfl,?_⟩
      have e:exN n=if n<80 then n+16 else n - 16:=by
        unfold exN
        by_cases h:80≤n
        · rw [if_pos h,if_neg (by omega)]
        · rw [if_neg h,if_pos (by omega)]
      rw [e]
      exact k
    · have c:¬ (64:Int)≤n:=fun z=>c (decide_eq_true z)
      have hn:n<64:=by omega
      rw [if_pos hn] at k
      have hlt:=hl hn
      refine ⟨_,rfl,_,rfl,_,_,rfl,rfl,⟨by decide,by decide⟩,o,_,_,nV (order.getD (n / 4) 0),rfl,rfl,SqL.of ho,?_,_,_,rfl,rfl,.inl ⟨by decide,by decide⟩,_,rfl,_,_,rfl,rfl,(by show (0:Int)<4;decide),_,_,rfl,rfl,?_⟩
      · exact nats_at hlt
      · exact qe k (vint (by omega))
def placed (n len:Nat):Bool:=decide (64≤n) || decide (n / 4<len)
def spIsPlaced:Sp:=fun vs H Q _=>∃ (n:Nat) (o:Addr) (order:List Nat),vs=[nV n,.ref o]∧H o=some (.lst (nats order))∧Q (.bl (placed n order.length)) H
theorem sc_is_placed:FnScope ["place", "order"] ["place", "order"] (defScope s_is_placed):=⟨rfl,rfl,rfl,by decide +kernel,rfl,by decide +kernel,by decide +kernel⟩
theorem ok_is_placed {f:Addr} {fd:FuncData} (F:Fun K "is_placed" "is_placed" s_is_placed f fd) (T:Txt K mg C CR):FnOk P w K mg base CX0 1 f fd ["place", "order"] spIsPlaced:=by
  refine F.ok sc_is_placed (fun vs H Q E h=>?_) (fun cdv A0 outer s H vs Q E hr h=>?_)
  · obtain ⟨n,o,order,rfl,_⟩:=h
    rfl
  · obtain ⟨n,o,order,rfl,ho,k⟩:=h
    refine ⟨_,(pss_one (ps_ret (pe_or (pe_cmpR op_ge (pv 0) (pe_glV rfl T.c_FIRST_OLD) (nomark _)) (pe_one (pe_cmpR op_lt (pe_op op_fdiv (pv 0) (pe_glV rfl T.c_PORTS_APART)) (pe_callB call_len_seq (by rfl) T.b_len PySem.boot_len (pa_cons (pv 1) pa_nil)) (nomark _)))))),?_⟩
    unfold placed at k
    refine ⟨_,rfl,_,_,rfl,rfl,_,rfl,ite2 (fun c=>?_) (fun c=>?_)⟩
    · have c:(64:Int)≤n:=of_decide_eq_true c
      rw [show decide (64≤n)=true from decide_eq_true (by omega)] at k
      exact k
    · have c:¬ (64:Int)≤n:=fun z=>c (decide_eq_true z)
      rw [show decide (64≤n)=false from decide_eq_false (by omega)] at k
      refine ⟨_,rfl,_,_,rfl,rfl,⟨by decide,by decide⟩,_,rfl,o,_,rfl,.inl (SqL.of ho),_,_,rfl,rfl,?_⟩
      refine qe k (vbl ?_)
      rw [List.length_map,Bool.false_or]
      exact decide_eq_decide.mpr (by omega)
end
theorem inl_ne {a b:Nat} (h:a≠b):¬ (Sum.inl (a:Int):Key)=Sum.inl (b:Int):=fun e=>h (by injection e with e;omega)
theorem DictIs.put {kvs:List (Key × V)} {f:Nat→Option Nat} (d:DictIs kvs f) (n v:Nat) (hn:f n=none):DictIs (putK kvs (.inl (n:Int)) (nV v)) (fun m=>if m=n then some v else f m):=by
  have hv:valV kvs (.inl (n:Int))=none:=by rw [d.val,hn];rfl
  refine ⟨nd_putK _ d.nd hv,fun m=>?_,fun k hk=>?_⟩
  · rw [valV_put]
    by_cases h:m=n
    · subst h
      rw [if_pos rfl,if_pos rfl];rfl
    · rw [if_neg (inl_ne h),if_neg h,d.val]
  · rw [putK_new _ hv,List.map_append] at hk
    rcases List.mem_append.mp hk with q | q
    · exact d.key k q
    · exact ⟨n,by simpa using q⟩
theorem valV_drop {kvs:List (Key × V)} (k j:Key):valV (dropK kvs k) j=if j=k then none else valV kvs j:=by
  induction kvs with
  | nil=>simp [dropK,valV]
  | cons p r ih =>
    by_cases e:p.1=k
    · rw [dropK_pos e,ih]
      by_cases h:j=k
      · rw [if_pos h,if_pos h]
      · rw [if_neg h,if_neg h,valV_neg (fun z=>h (z.symm.trans e))]
    · rw [dropK_neg e]
      by_cases q:p.1=j
      · rw [valV_pos q,valV_pos q,if_neg (fun z=>e (q.trans z))]
      · rw [valV_neg q,valV_neg q,ih]
theorem DictIs.drop {kvs:List (Key × V)} {f:Nat→Option Nat} (d:DictIs kvs f) (n:Nat):DictIs (dropK kvs (.inl (n:Int))) (fun m=>if m=n then none else f m):=by
  refine ⟨nd_dropK d.nd,fun m=>?_,fun k hk=>?_⟩
  · rw [valV_drop]
    by_cases h:m=n
    · subst h
      rw [if_pos rfl,if_pos rfl];rfl
    · rw [if_neg (inl_ne h),if_neg h,d.val]
  · obtain ⟨p,hp,e⟩:=List.mem_map.mp hk
    exact d.key k (List.mem_map.mpr ⟨p,dropK_mem hp,e⟩)
theorem DictIs.congr {kvs:List (Key × V)} {f g:Nat→Option Nat} (d:DictIs kvs f) (h:∀ n,f n=g n):DictIs kvs g:=⟨d.nd,fun n=>by rw [d.val,h],d.key⟩
theorem DictIs.mem {kvs:List (Key × V)} {f:Nat→Option Nat} (d:DictIs kvs f) (n:Nat):(.inl (n:Int))∈kvs.map (·.1)↔(f n).isSome=true:=by
  have e:=d.val n
  constructor
  · intro h
    cases q:f n with
    | some v=>rfl
    | none =>
      rw [q] at e
      exact absurd h (valV_not e)
  · intro h
    obtain ⟨v,hv⟩:=Option.isSome_iff_exists.mp h
    rw [hv] at e
    exact valV_in e
theorem DictIs.keys_perm {kvs:List (Key × V)} {f:Nat→Option Nat} (d:DictIs kvs f) {B:Nat} (hB:∀ n,(f n).isSome=true→n<B) :
    (kvs.map (·.1)).Perm (((List.range B).filter fun n=>(f n).isSome).map fun n:Nat=>(Sum.inl (n:Int):Key)):=by
  have nd2:(((List.range B).filter fun n=>(f n).isSome).map fun n:Nat=>(Sum.inl (n:Int):Key)).Nodup:=by
    refine List.Pairwise.map _ (fun a b h e=>?_) (List.Pairwise.filter _ List.nodup_range)
    exact inl_ne h e
  refine (List.perm_ext_iff_of_nodup d.nd nd2).mpr fun k=>⟨fun h=>?_,fun h=>?_⟩
  · obtain ⟨n,rfl⟩:=d.key k h
    have hs:=(d.mem n).mp h
    exact List.mem_map.mpr ⟨n,List.mem_filter.mpr ⟨List.mem_range.mpr (hB n hs),hs⟩,rfl⟩
  · obtain ⟨n,hn,rfl⟩:=List.mem_map.mp h
    exact (d.mem n).mpr (List.mem_filter.mp hn).2
theorem DictIs.len {kvs:List (Key × V)} {f:Nat→Option Nat} (d:DictIs kvs f) {B:Nat} (hB:∀ n,(f n).isSome=true→n<B):kvs.length=((List.range B).filter fun n=>(f n).isSome).length:=by
  have h:=(d.keys_perm hB).length_eq
  simpa using h
theorem DictIs.len_le {kvs:List (Key × V)} {f:Nat→Option Nat} (d:DictIs kvs f) {B:Nat} (hB:∀ n,(f n).isSome=true→n<B):kvs.length≤B:=by
  rw [d.len hB]
  have h:=List.length_filter_le (fun n=>(f n).isSome) (List.range B)
  rw [List.length_range] at h
  exact h
theorem RecAd.mem_p {A:RecAd}:A.p∈A.fp:=by simp [RecAd.fp]
theorem RecAd.mem_mp {A:RecAd}:A.mp∈A.fp:=by simp [RecAd.fp]
theorem RecAd.mem_ru {A:RecAd}:A.ru∈A.fp:=by simp [RecAd.fp]
theorem RecAd.mem_ag {A:RecAd}:A.ag∈A.fp:=by simp [RecAd.fp]
theorem RecAd.mem_jo {A:RecAd}:A.jo∈A.fp:=by simp [RecAd.fp]
theorem RecAd.mem_rl {A:RecAd} {a:RuleAd} {b:Addr} (h:a∈A.rl) (hb:b∈a.fp):b∈A.fp:=by
  unfold RecAd.fp
  have q:b∈A.rl.flatMap RuleAd.fp:=List.mem_flatMap.mpr ⟨a,h,hb⟩
  exact List.mem_cons_of_mem _ (List.mem_cons_of_mem _ (List.mem_cons_of_mem _ (List.mem_cons_of_mem _ (List.mem_cons_of_mem _ q))))
section
variable {C CR:Addr} {H H' : Hp} {A:RecAd} {r:Nets.Rec}
theorem RuleAt.frame {a:RuleAd} {R:Nets.Rule} (h:RuleAt CR H a R) (k:∀ b∈a.fp,∀ o,H b=some o→H' b=some o):RuleAt CR H' a R:=by
  obtain ⟨kvs,e,d⟩:=h.ma
  exact ⟨k _ (by simp [RuleAd.fp]) _ h.obj,k _ (by simp [RuleAd.fp]) _ h.sy,kvs,k _ (by simp [RuleAd.fp]) _ e,d⟩
theorem RecAt.frame (h:RecAt C CR H A r) (k:∀ b∈A.fp,∀ o,H b=some o→H' b=some o):RecAt C CR H' A r:=by
  obtain ⟨ka,ea,da⟩:=h.ag
  obtain ⟨kj,ej,dj⟩:=h.jo
  refine ⟨h.ap,k _ A.mem_p _ h.obj,k _ A.mem_mp _ h.mp,⟨ka,k _ A.mem_ag _ ea,da⟩,⟨kj,k _ A.mem_jo _ ej,dj⟩,k _ A.mem_ru _ h.ru,h.rlen,fun i a R h1 h2=>(h.rule i a R h1 h2).frame fun b hb=>k b (A.mem_rl (List.mem_of_getElem? h1) hb)⟩
theorem RecAt.same (h:RecAt C CR H A r) (s:Same H H'):RecAt C CR H' A r:=h.frame fun b _ o e=>s b o e
theorem RecAt.there (h:RecAt C CR H A r):∀ b∈A.fp,∃ o,H b=some o:=by
  obtain ⟨ka,ea,da⟩:=h.ag
  obtain ⟨kj,ej,dj⟩:=h.jo
  intro b hb
  unfold RecAd.fp at hb
  simp only [List.mem_cons] at hb
  rcases hb with rfl | rfl | rfl | rfl | rfl | hb
  · exact ⟨_,h.obj⟩
  · exact ⟨_,h.mp⟩
  · exact ⟨_,h.ru⟩
  · exact ⟨_,ea⟩
  · exact ⟨_,ej⟩
  · obtain ⟨a,ha,hb⟩:=List.mem_flatMap.mp hb
    obtain ⟨i,hi⟩:=List.getElem?_of_mem ha
    have hlt:i<r.rules.length:=by rw [← h.rlen];exact (List.getElem?_eq_some_iff.mp hi).1
    have R:=h.rule i a _ hi (List.getElem?_eq_getElem hlt)
    unfold RuleAd.fp at hb
    simp only [List.mem_cons,List.not_mem_nil,or_false] at hb
    rcases hb with rfl | rfl | rfl
    · exact ⟨_,R.obj⟩
    · exact ⟨_,R.sy⟩
    · obtain ⟨kvs,e,_⟩:=R.ma
      exact ⟨_,e⟩
theorem RecAt.setMp (h:RecAt C CR H A r) {ar:List Nat} (k:∀ b,b≠A.mp→∀ o,H b=some o→H' b=some o) (e:H' A.mp=some (.lst (nats ar))):RecAt C CR H' A ⟨ar,r.rules,r.sym,r.link⟩:=by
  obtain ⟨ka,ea,da⟩:=h.ag
  obtain ⟨kj,ej,dj⟩:=h.jo
  have ap:=h.ap
  refine ⟨ap,k _ ap.pm _ h.obj,e,⟨ka,k _ ap.ma.symm _ ea,da⟩,⟨kj,k _ ap.mj.symm _ ej,dj⟩,k _ ap.mr.symm _ h.ru,h.rlen,fun i a R h1 h2=>(h.rule i a R h1 h2).frame fun b hb=>k b (ap.rl a (List.mem_of_getElem? h1) b hb).2.1⟩
theorem RecAt.setAg (h:RecAt C CR H A r) {sy:List (Option Nat)} {kvs:List (Key × V)} (k:∀ b,b≠A.ag→∀ o,H b=some o→H' b=some o) (e:H' A.ag=some (.dK kvs)) (d:DictIs kvs fun a=>sy.getD a none):RecAt C CR H' A ⟨r.arity,r.rules,sy,r.link⟩:=by
  obtain ⟨kj,ej,dj⟩:=h.jo
  have ap:=h.ap
  refine ⟨ap,k _ ap.pa _ h.obj,k _ ap.ma _ h.mp,⟨kvs,e,d⟩,⟨kj,k _ ap.aj.symm _ ej,dj⟩,k _ ap.ra _ h.ru,h.rlen,fun i a R h1 h2=>(h.rule i a R h1 h2).frame fun b hb=>k b (ap.rl a (List.mem_of_getElem? h1) b hb).2.2.2.1⟩
theorem RecAt.setJo (h:RecAt C CR H A r) {li:List (Option Nat)} {kvs:List (Key × V)} (k:∀ b,b≠A.jo→∀ o,H b=some o→H' b=some o) (e:H' A.jo=some (.dK kvs)) (d:DictIs kvs fun a=>li.getD a none):RecAt C CR H' A ⟨r.arity,r.rules,r.sym,li⟩:=by
  obtain ⟨ka,ea,da⟩:=h.ag
  have ap:=h.ap
  refine ⟨ap,k _ ap.pj _ h.obj,k _ ap.mj _ h.mp,⟨ka,k _ ap.aj _ ea,da⟩,⟨kvs,e,d⟩,k _ ap.rj _ h.ru,h.rlen,fun i a R h1 h2=>(h.rule i a R h1 h2).frame fun b hb=>k b (ap.rl a (List.mem_of_getElem? h1) b hb).2.2.2.2⟩
end
theorem upd_none {H:Hp} {x p:Addr} {o:HO} (h:upd H x o p=none):H p=none∧p≠x:=by
  by_cases z:p=x
  · rw [z,upd_same] at h;cases h
  · rw [upd_ne z] at h;exact ⟨h,z⟩
theorem keep_upd {H H1:Hp} {S:List Addr} {x:Addr} {u:HO} (hx:x∈S) (k:∀ b o,H b=some o→b∉S→H1 b=some o):∀ b o,H b=some o→b∉S→upd H1 x u b=some o:=fun b o e nb=>by
  rw [upd_ne (fun z=>nb (by rw [z];exact hx))]
  exact k b o e nb
theorem but_upd {H:Hp} {x:Addr} {u:HO}:∀ b,b≠x→∀ o,H b=some o→upd H x u b=some o:=fun b hb o e=>by
  rw [upd_ne hb]
  exact e
def ansV (a:Nets.Ans):List V:=V.int a.code::nats a.nums
structure Post (C CR:Addr) (H:Hp) (A:RecAd) (r' : Nets.Rec) (H' : Hp) (A' : RecAd):Prop where
  rec_:RecAt C CR H' A' r'
  p:A'.p=A.p
  keep:∀ b o,H b=some o→b∉A.fp→H' b=some o
  fresh:∀ b∈A'.fp,b∈A.fp∨H b=none
def Ends_ (C CR:Addr) (H:Hp) (A:RecAd) (r:Nets.Rec) (c:Nets.Call) (Q:VK):Prop :=
  ∀ (H' : Hp) (A' : RecAd) (p:Addr),Post C CR H A (Nets.does r c).1 H' A'→H' p=some (.lst (ansV (Nets.does r c).2))→H p=none→Q (.ref p) H'
theorem Same.upd {H H1:Hp} {p:Addr} {o:HO} (s:Same H H1) (hp:H1 p=none):Same H (upd H1 p o):=fun b u e=>by
  rw [upd_ne (ne_of_none (s b u e) hp)]
  exact s b u e
section
variable {C CR:Addr} {H H1:Hp} {A:RecAd} {r:Nets.Rec} {c:Nets.Call} {Q:VK}
theorem ends_same {a:Nets.Ans} {p:Addr} (h:RecAt C CR H A r) (k:Ends_ C CR H A r c Q) (e:Nets.does r c=(r,a)) (s:Same H H1) (hp:H1 p=none):Q (.ref p) (upd H1 p (.lst (ansV a))):=by
  have s2:Same H (upd H1 p (.lst (ansV a))):=Same.upd s hp
  refine k _ A p ⟨?_,rfl,fun b o eb _=>s2 b o eb,fun b hb=>.inl hb⟩ ?_ (s.free hp)
  · rw [e];exact h.same s2
  · rw [e];exact upd_same
theorem ends_new {r' : Nets.Rec} {a:Nets.Ans} {A' : RecAd} {p:Addr} (k:Ends_ C CR H A r c Q) (e:Nets.does r c=(r',a)) (P:Post C CR H A r' H1 A') (hp:H1 p=none) (h0:H p=none):Q (.ref p) (upd H1 p (.lst (ansV a))):=by
  have s1:Same H1 (upd H1 p (.lst (ansV a))):=Same.upd (Same.refl _) hp
  refine k _ A' p ⟨?_,P.p,fun b o eb nb=>s1 b o (P.keep b o eb nb),P.fresh⟩ ?_ h0
  · rw [e];exact P.rec_.same s1
  · rw [e];exact upd_same
end
section
variable {P:Program} {w:World} {K:PySem.W.Frag} {mg:Str→Option Value} {base:Heap} {C CR:Addr}
def spRuleKey:Sp:=fun vs H Q _=>∃ (s t:Nat),vs=[nV s,nV t]∧∀ p,H p=none→Q (.ref p) (upd H p (.tup ((keyOf s t).map kV)))
theorem sc_rule_key:FnScope ["s", "t"] ["s", "t"] (defScope s_rule_key):=⟨rfl,rfl,rfl,by decide +kernel,rfl,by decide +kernel,by decide +kernel⟩
theorem ok_rule_key {f:Addr} {fd:FuncData} (F:Fun K "rule_key" "rule_key" s_rule_key f fd) (T:Txt K mg C CR):FnOk P w K mg base CX0 1 f fd ["s", "t"] spRuleKey:=by
  refine F.ok sc_rule_key (fun vs H Q E h=>?_) (fun cdv A0 outer s H vs Q E hr h=>?_)
  · obtain ⟨s,t,rfl,_⟩:=h
    rfl
  · obtain ⟨s,t,rfl,k⟩:=h
    refine ⟨_,(pss_one (ps_ret (pe_tup (pa_cons (pe_callB (call_min2 rfl) (by rfl) T.b_min (by rfl) (pa_cons (pv 0) (pa_cons (pv 1) pa_nil))) (pa_cons (pe_callB (call_max2 rfl) (by rfl) T.b_max (by rfl) (pa_cons (pv 0) (pa_cons (pv 1) pa_nil))) pa_nil))))),?_⟩
    refine ⟨_,rfl,_,rfl,_,_,rfl,_,rfl,_,rfl,_,_,rfl,(by show 2≤sizeLine;decide),fun p hp=>?_⟩
    have e:[V.int (if (t:Int)<s then (t:Int) else s),V.int (if (t:Int)>s then (t:Int) else s)]=(keyOf s t).map kV:=by
      show _=[V.int ((min s t:Nat):Int),V.int ((max s t:Nat):Int)]
      rw [Nat.min_def,Nat.max_def]
      by_cases h1:(t:Int)<s
      · rw [if_pos h1,if_neg (show ¬ (t:Int)>s by omega),if_neg (show ¬ s≤t by omega),if_neg (show ¬ s≤t by omega)]
      · by_cases h2:(t:Int)>s
        · rw [if_neg h1,if_pos h2,if_pos (show s≤t by omega),if_pos (show s≤t by omega)]
        · have h3:s=t:=by omega
          subst h3
          rw [if_neg h1,if_pos (Nat.le_refl _)]
    have q:=k p hp
    rw [← e] at q
    exact q
def spAddSymbol (C CR:Addr):Sp:=fun vs H Q _=>∃ (A:RecAd) (r:Nets.Rec) (n:Nat),vs=[.ref A.p,nV n]∧RecAt C CR H A r∧RecOk r∧Ends_ C CR H A r (.symbol 0 n) Q
theorem sc_add_symbol:FnScope ["record", "n", "number"] ["record", "n"] (defScope s_add_symbol):=⟨rfl,rfl,rfl,by decide +kernel,rfl,by decide +kernel,by decide +kernel⟩
theorem ok_add_symbol {f:Addr} {fd:FuncData} (F:Fun K "add_symbol" "add_symbol" s_add_symbol f fd) (T:Txt K mg C CR):FnOk P w K mg base CX0 1 f fd ["record", "n"] (spAddSymbol C CR):=by
  refine F.ok sc_add_symbol (fun vs H Q E h=>?_) (fun cdv A0 outer s H vs Q E hr h=>?_)
  · obtain ⟨A,r,n,rfl,_⟩:=h
    rfl
  · obtain ⟨A,r,n,rfl,h1,ok,k⟩:=h
    have nd:=sc_add_symbol.nd
    refine ⟨_,(pss_cons (ps_if (pt_cmpR op_gt (pv 1) (pe_glV rfl T.c_MORE_PORTS_LIMIT) (nomark _)) (pss_one (ps_ret (pe_lst (pa_cons (pe_glV rfl T.c_TOO_HIGH) pa_nil)))) pss_nil) (pss_cons (ps_set (i:=2) nd rfl (Or.inl rfl) (pe_callB call_len_seq (by rfl) T.b_len PySem.boot_len (pa_cons (pe_fld (pv 0) rfl) pa_nil))) (pss_cons (ps_if (pt_cmpR op_ge (pv 2) (pe_glV rfl T.c_SYMBOL_LIMIT) (nomark _)) (pss_one (ps_ret (pe_lst (pa_cons (pe_glV rfl T.c_FULL) pa_nil)))) pss_nil) (pss_cons (ps_expr (pe_bm PySem.F.plainAttrs_list PySem.F.slot_list_append PySem.F.type_list_append mt_append (pe_fld (pv 0) rfl) (pa_cons (pv 1) pa_nil))) (pss_one (ps_ret (pe_lst (pa_cons pe_int (pa_cons (pv 2) pa_nil))))))))),?_⟩
    refine ⟨_,rfl,_,_,rfl,rfl,_,rfl,ite2 (fun c=>?_) (fun c=>?_)⟩
    · have c:(3:Int)<n:=of_decide_eq_true c
      refine ⟨(by show 1≤sizeLine;decide),fun p hp=>?_⟩
      exact ends_same (a:=Nets.says (-1)) h1 k (by show (if 3<n then _ else _)=_;rw [if_pos (by omega)]) (Same.refl _) hp
    · have c:¬ (3:Int)<n:=fun z=>c (decide_eq_true z)
      refine ⟨_,rfl,A.p,C,A.dx,_,_,rfl,h1.obj,T.cl,T.nMore,recF_more A,A.mp,_,rfl,.inl (SqL.of h1.mp),_,rfl,_,_,rfl,rfl,_,rfl,ite2 (fun c2=>?_) (fun c2=>?_)⟩
      · have c2:(16:Int)≤((nats r.arity).length:Int):=of_decide_eq_true c2
        rw [List.length_map] at c2
        refine ⟨(by show 1≤sizeLine;decide),fun p hp=>?_⟩
        exact ends_same (a:=Nets.says (-2)) h1 k (by show (if 3<n then _ else if Nets.SYMBOLS≤r.arity.length then _ else _)=_;rw [if_neg (by omega),if_pos (by unfold Nets.SYMBOLS;omega)]) (Same.refl _) hp
      · have c2:¬ (16:Int)≤((nats r.arity).length:Int):=fun z=>c2 (decide_eq_true z)
        have el:(nats r.arity).length=r.arity.length:=List.length_map ..
        rw [el] at c2
        refine ⟨_,rfl,A.p,C,A.dx,_,_,rfl,h1.obj,T.cl,T.nMore,recF_more A,.inl ⟨rfl,_,SqL.of h1.mp⟩,_,rfl,A.mp,_,_,rfl,rfl,h1.mp,?_,_,rfl,(by show 2≤sizeLine;decide),fun p hp=>?_⟩
        · rw [el];exact small1000 (by omega)
        · have e1:nats r.arity++[V.int n]=nats (r.arity++[n]):=by rw [nats,nats,List.map_append];rfl
          rw [e1] at hp ⊢
          have h0:H p=none:=(upd_none hp).1
          have q:=ends_new (r':=⟨r.arity++[n],r.rules,r.sym,r.link⟩) (a:=Nets.tells [r.arity.length]) (A':=A) (p:=p) k (by show (if 3<n then _ else if Nets.SYMBOLS≤r.arity.length then _ else _)=_;rw [if_neg (by omega),if_neg (by unfold Nets.SYMBOLS;omega)])
            ⟨h1.setMp but_upd upd_same,rfl,keep_upd A.mem_mp fun b o e _=>e,fun b hb=>.inl hb⟩ hp h0
          have e2:ansV (Nets.tells [r.arity.length])=[V.int 0,V.int ((nats r.arity).length:Int)]:=by rw [el];rfl
          rw [e2] at q
          exact q
end
theorem getD_set {α:Type} (l:List α) (a m:Nat) (v d:α):(l.set a v).getD m d=if m=a∧a<l.length then v else l.getD m d:=by
  rw [List.getD_eq_getElem?_getD,List.getD_eq_getElem?_getD,List.getElem?_set]
  by_cases h:a=m
  · subst h
    by_cases h2:a<l.length
    · rw [if_pos rfl,if_pos h2,if_pos ⟨rfl,h2⟩];rfl
    · rw [if_pos rfl,if_neg h2,if_neg (fun z=>h2 z.2),List.getElem?_eq_none (by omega)]
  · rw [if_neg h,if_neg (fun z=>h z.1.symm)]
theorem getD_lt {α:Type} {l:List (Option α)} {a:Nat} (h:(l.getD a none).isSome=true):a<l.length:=by
  rw [List.getD_eq_getElem?_getD] at h
  by_cases hl:a<l.length
  · exact hl
  · rw [List.getElem?_eq_none (by omega)] at h
    cases h
theorem RecOk.sym_lt {r:Nets.Rec} (ok:RecOk r) {a:Nat} (h:(r.symAt a).isSome=true):a<64:=by
  rw [← ok.sl];exact getD_lt h
theorem RecOk.at_lt {r:Nets.Rec} (ok:RecOk r) {a:Nat} (h:(r.at_ a).isSome=true):a<272:=by
  rw [← ok.ll];exact getD_lt h
theorem RecOk.port_lt {r:Nets.Rec} (ok:RecOk r) {x:Nat} (h:r.isPort x=true):x<272:=by
  unfold Nets.Rec.isPort Nets.NAMES Nets.FREE at h
  by_cases c:256≤x
  · rw [if_pos c] at h
    have:=of_decide_eq_true h
    omega
  · omega
theorem keyOf_eq {s t u v:Nat}:keyOf s t=keyOf u v↔(u=s∧v=t)∨(u=t∧v=s):=by
  unfold keyOf
  constructor
  · intro h
    injection h with h1 h2
    injection h2 with h2 _
    injection h1 with h1
    injection h2 with h2
    have e1:min s t=min u v:=by omega
    have e2:max s t=max u v:=by omega
    rw [Nat.min_def,Nat.min_def] at e1
    rw [Nat.max_def,Nat.max_def] at e2
    split at e1 <;> split at e1 <;> simp_all <;> omega
  · rintro (⟨rfl,rfl⟩ | ⟨rfl,rfl⟩)
    · rfl
    · rw [Nat.min_comm,Nat.max_comm]
theorem rule_look (s t:Nat):∀ (l:List RuleAd) (rs:List Nets.Rule),l.length=rs.length →
    (match rs.find? (fun (R:Nets.Rule)=>(R.s == s && R.t == t) || (R.s == t && R.t == s)) with
    | none=>valV (rulesK l rs) (keyOf s t)=none
    | some R=>∃ (i:Nat) (a:RuleAd),l[i]?=some a∧rs[i]?=some R∧valV (rulesK l rs) (keyOf s t)=some (V.ref a.q))
  | [],[],_=>rfl
  | [],_::_,h=>by cases h
  | _::_,[],h=>by cases h
  | a::l,R::rs,h=>by
    have ih:=rule_look s t l rs (by simpa using h)
    rw [List.find?_cons]
    have e:rulesK (a::l) (R::rs)=(keyOf R.s R.t,V.ref a.q)::rulesK l rs:=rfl
    rw [e]
    by_cases c:((R.s == s && R.t == t) || (R.s == t && R.t == s))=true
    · simp only [c]
      have c' : keyOf R.s R.t=keyOf s t:=by
        rw [Bool.or_eq_true,Bool.and_eq_true,Bool.and_eq_true,beq_iff_eq,beq_iff_eq,beq_iff_eq,beq_iff_eq] at c
        rw [keyOf_eq]
        rcases c with ⟨h1,h2⟩ | ⟨h1,h2⟩
        · exact .inl ⟨h1.symm,h2.symm⟩
        · exact .inr ⟨h2.symm,h1.symm⟩
      exact ⟨0,a,rfl,rfl,valV_pos c'⟩
    · have c2:((R.s == s && R.t == t) || (R.s == t && R.t == s))=false:=by simpa using c
      simp only [c2]
      have c' : ¬ keyOf R.s R.t=keyOf s t:=by
        intro z
        rw [keyOf_eq] at z
        apply c
        rw [Bool.or_eq_true,Bool.and_eq_true,Bool.and_eq_true,beq_iff_eq,beq_iff_eq,beq_iff_eq,beq_iff_eq]
        rcases z with ⟨h1,h2⟩ | ⟨h1,h2⟩
        · exact .inl ⟨h1.symm,h2.symm⟩
        · exact .inr ⟨h2.symm,h1.symm⟩
      have ev:valV ((keyOf R.s R.t,V.ref a.q)::rulesK l rs) (keyOf s t)=valV (rulesK l rs) (keyOf s t):=valV_neg c'
      rw [ev]
      cases hf:rs.find? (fun (R:Nets.Rule)=>(R.s == s && R.t == t) || (R.s == t && R.t == s)) with
      | none=>rw [hf] at ih;exact ih
      | some R' =>
        rw [hf] at ih
        obtain ⟨i,a',h1,h2,h3⟩:=ih
        exact ⟨i+1,a',by simpa using h1,by simpa using h2,h3⟩
theorem RecAt.look {C CR:Addr} {H:Hp} {A:RecAd} {r:Nets.Rec} (h:RecAt C CR H A r) (s t:Nat) :
    (r.ruleFor s t=none∧valV (rulesK A.rl r.rules) (keyOf s t)=none)∨(∃ (R:Nets.Rule) (i:Nat) (a:RuleAd),r.ruleFor s t=some R∧A.rl[i]?=some a∧r.rules[i]?=some R∧valV (rulesK A.rl r.rules) (keyOf s t)=some (V.ref a.q)):=by
  have q:=rule_look s t A.rl r.rules h.rlen
  unfold Nets.Rec.ruleFor
  cases hf:r.rules.find? (fun (R:Nets.Rule)=>(R.s == s && R.t == t) || (R.s == t && R.t == s)) with
  | none=>rw [hf] at q;exact .inl ⟨rfl,q⟩
  | some R =>
    rw [hf] at q
    obtain ⟨i,a,h1,h2,h3⟩:=q
    exact .inr ⟨R,i,a,rfl,h1,h2,h3⟩
section
variable {P:Program} {w:World} {K:PySem.W.Frag} {mg:Str→Option Value} {base:Heap} {C CR:Addr}
def spLowestFree (C CR:Addr):Sp:=fun vs H Q _=>∃ (A:RecAd) (r:Nets.Rec) (a:Nat),vs=[.ref A.p]∧RecAt C CR H A r∧(∀ b,b<a→(r.symAt b).isSome=true)∧r.symAt a=none∧Q (nV a) H
theorem sc_lowest_free:FnScope ["record", "number"] ["record"] (defScope s_lowest_free):=⟨rfl,rfl,rfl,by decide +kernel,rfl,by decide +kernel,by decide +kernel⟩
theorem ok_lowest_free {f:Addr} {fd:FuncData} (F:Fun K "lowest_free" "lowest_free" s_lowest_free f fd) (T:Txt K mg C CR):FnOk P w K mg base CX0 1 f fd ["record"] (spLowestFree C CR):=by
  refine F.ok sc_lowest_free (fun vs H Q E h=>?_) (fun cdv A0 outer s H vs Q E hr h=>?_)
  · obtain ⟨A,r,a,rfl,_⟩:=h
    rfl
  · obtain ⟨A,r,a,rfl,h1,hlt,ha,k⟩:=h
    have nd:=sc_lowest_free.nd
    have hu:=hu_of hr
    obtain ⟨kvs,hag,dag⟩:=h1.ag
    refine ⟨_,(pss_cons (ps_set (i:=1) nd rfl (Or.inl rfl) pe_int) (pss_cons (ps_while PassesOwn.never (pt_cmp (pc_din hu (pv 1) (pe_fld (pv 0) rfl))) (pss_one (ps_set (i:=1) nd rfl (Or.inl rfl) (pe_op op_add (pv 1) pe_int)))) (pss_one (ps_ret (pv 1))))),?_⟩
    refine ⟨fun m σ H'=>H'=H∧∃ n:Nat,n+m=a∧σ=[some (.ref A.p),some (nV n)],⟨a,rfl,0,by omega,rfl⟩,?_⟩
    rintro m σ H' ⟨rfl,n,hn,rfl⟩
    refine ⟨_,rfl,_,rfl,A.p,C,A.dx,_,_,rfl,h1.obj,T.cl,T.nAgents,recF_agents A,A.ag,_,rfl,DGet.k (k:=Sum.inl (n:Int)) hag,_,rfl,?_⟩
    rw [dag.val n]
    cases hs:r.symAt n with
    | none =>
      have e:n=a:=by
        by_cases z:n<a
        · have q:=hlt n z
          rw [hs] at q;cases q
        · omega
      subst e
      exact iteF ⟨_,rfl,k⟩
    | some sy =>
      have hne:n≠a:=by
        rintro rfl
        rw [ha] at hs;cases hs
      refine iteT ⟨fun σ' H1=>H1=H'∧σ'=[some (.ref A.p),some (nV (n+1))],?_,?_⟩
      · rintro σ' H' ⟨rfl,rfl⟩
        exact ⟨m - 1,by omega,rfl,n+1,by omega,rfl⟩
      · exact ⟨_,rfl,_,_,rfl,rfl,rfl,rfl⟩
def spAddAgent (C CR:Addr):Sp:=fun vs H Q _=>∃ (A:RecAd) (r:Nets.Rec) (n:Nat),vs=[.ref A.p,nV n]∧RecAt C CR H A r∧RecOk r∧Ends_ C CR H A r (.agent 0 n) Q
theorem find_free {r:Nets.Rec} (ok:RecOk r):((List.range Nets.AGENTS).find? (fun a=>(r.symAt a).isNone)=none∧((List.range 64).filter fun n=>(r.symAt n).isSome).length=64) ∨
    (∃ a,(List.range Nets.AGENTS).find? (fun a=>(r.symAt a).isNone)=some a∧a<64∧r.symAt a=none∧(∀ b,b<a→(r.symAt b).isSome=true)∧((List.range 64).filter fun n=>(r.symAt n).isSome).length<64):=by
  cases h:(List.range Nets.AGENTS).find? (fun a=>(r.symAt a).isNone) with
  | none =>
    refine .inl ⟨rfl,?_⟩
    have q:∀ x∈List.range 64,(r.symAt x).isSome=true:=fun x hx=>by
      have z:=List.find?_eq_none.mp h x hx
      cases e:r.symAt x with
      | none=>rw [e] at z;exact absurd rfl z
      | some v=>rfl
    rw [List.filter_eq_self.mpr q,List.length_range]
  | some a =>
    obtain ⟨h1,as,bs,h2,h3⟩:=List.find?_eq_some_iff_append.mp h
    have hm:a∈List.range 64:=List.mem_of_find?_eq_some h
    have hn:r.symAt a=none:=by
      cases e:r.symAt a with
      | none=>rfl
      | some v=>rw [e] at h1;cases h1
    refine .inr ⟨a,rfl,List.mem_range.mp hm,hn,fun b hb=>?_,?_⟩
    · have hb2:b∈List.range Nets.AGENTS:=List.mem_range.mpr (by have:=List.mem_range.mp hm;unfold Nets.AGENTS;omega)
      have hbas:b∈as:=by
        rw [h2] at hb2
        rcases List.mem_append.mp hb2 with z | z
        · exact z
        · have hp:(as++a::bs).Pairwise (· < ·):=by rw [← h2];exact List.pairwise_lt_range
          have hp2:=(List.pairwise_append.mp hp).2.1
          rcases List.mem_cons.mp z with z | z
          · omega
          · have:=(List.pairwise_cons.mp hp2).1 b z
            omega
      have q:=h3 b hbas
      cases e:r.symAt b with
      | none=>rw [e] at q;cases q
      | some v=>rfl
    · have q:=List.length_filter_lt_length_iff_exists (p:=fun n=>(r.symAt n).isSome) (l:=List.range 64)
      have z:=q.mpr ⟨a,hm,by rw [hn];simp⟩
      rw [List.length_range] at z
      exact z
theorem sc_add_agent:FnScope ["record", "s", "number"] ["record", "s"] (defScope s_add_agent):=⟨rfl,rfl,rfl,by decide +kernel,rfl,by decide +kernel,by decide +kernel⟩
theorem ok_add_agent {f:Addr} {fd:FuncData} (F:Fun K "add_agent" "add_agent" s_add_agent f fd) (T:Txt K mg C CR) (D_is_symbol:Df P w K mg base "is_symbol" ["record", "s"] 1 (spIsSymbol C CR)) (D_lowest_free:Df P w K mg base "lowest_free" ["record"] 1 (spLowestFree C CR)) :
    FnOk P w K mg base CX0 2 f fd ["record", "s"] (spAddAgent C CR):=by
  refine F.ok sc_add_agent (fun vs H Q E h=>?_) (fun cdv A0 outer s H vs Q E hr h=>?_)
  · obtain ⟨A,r,n,rfl,_⟩:=h
    rfl
  · obtain ⟨A,r,n,rfl,h1,ok,k⟩:=h
    have nd:=sc_add_agent.nd
    have hu:=hu_of hr
    obtain ⟨kvs,hag,dag⟩:=h1.ag
    have hlen:=dag.len (B:=64) fun n hn=>ok.sym_lt hn
    refine ⟨_,(pss_cons (ps_if (pt_not (pt_val (pe_callD D_is_symbol (hr.mono (by decide)) rfl (pa_cons (pv 0) (pa_cons (pv 1) pa_nil))))) (pss_one (ps_ret (pe_lst (pa_cons (pe_glV rfl T.c_NOT_THERE) pa_nil)))) pss_nil) (pss_cons (ps_if (pt_cmpR op_ge (pe_callB call_lenD (by rfl) T.b_len PySem.boot_len (pa_cons (pe_fld (pv 0) rfl) pa_nil)) (pe_glV rfl T.c_AGENT_LIMIT) (nomark _)) (pss_one (ps_ret (pe_lst (pa_cons (pe_glV rfl T.c_FULL) pa_nil)))) pss_nil) (pss_cons (ps_set (i:=2) nd rfl (Or.inl rfl) (pe_callD D_lowest_free (hr.mono (by decide)) rfl (pa_cons (pv 0) pa_nil))) (pss_cons (ps_dput hu (pe_fld (pv 0) rfl) (pv 2) (pv 1) rfl) (pss_one (ps_ret (pe_lst (pa_cons pe_int (pa_cons (pv 2) pa_nil))))))))),?_⟩
    refine ⟨_,rfl,_,rfl,A,r,n,rfl,h1,_,rfl,ite2 (fun c=>?_) (fun c=>?_)⟩
    · have c:¬ ((n:Int)<r.arity.length):=by simpa using c
      refine ⟨(by show 1≤sizeLine;decide),fun p hp=>?_⟩
      exact ends_same (a:=Nets.says (-4)) h1 k (by show (if r.arity.length≤n then _ else _)=_;rw [if_pos (by omega)]) (Same.refl _) hp
    · have c:(n:Int)<r.arity.length:=by simpa using c
      have cn:¬ r.arity.length≤n:=by omega
      refine ⟨_,rfl,A.p,C,A.dx,_,_,rfl,h1.obj,T.cl,T.nAgents,recF_agents A,A.ag,kvs,rfl,hag,_,_,rfl,rfl,_,rfl,ite2 (fun c2=>?_) (fun c2=>?_)⟩
      · have c2:(64:Int)≤(kvs.length:Int):=of_decide_eq_true c2
        refine ⟨(by show 1≤sizeLine;decide),fun p hp=>?_⟩
        rcases find_free ok with ⟨hf,_⟩ | ⟨a,_,_,_,_,hl⟩
        · exact ends_same (a:=Nets.says (-2)) h1 k (by unfold Nets.does;dsimp only;rw [if_neg cn];simp only [hf]) (Same.refl _) hp
        · omega
      · have c2:¬ (64:Int)≤(kvs.length:Int):=fun z=>c2 (decide_eq_true z)
        rcases find_free ok with ⟨_,hl⟩ | ⟨a,hf,ha,hsa,hb,_⟩
        · omega
        · refine ⟨_,rfl,A,r,a,rfl,h1,hb,hsa,?_⟩
          refine ⟨_,rfl,_,rfl,A.p,C,A.dx,_,_,rfl,h1.obj,T.cl,T.nAgents,recF_agents A,_,rfl,A.ag,_,rfl,DPut.k (k:=Sum.inl (a:Int)) hag (small1000 (by omega)),_,rfl,(by show 2≤sizeLine;decide),fun p hp=>?_⟩
          refine ends_new (r':=⟨r.arity,r.rules,r.sym.set a (some n),r.link⟩) (a:=Nets.tells [a]) (A':=A) (p:=p) k (by unfold Nets.does;dsimp only;rw [if_neg cn];simp only [hf])
            ⟨h1.setAg but_upd upd_same ((dag.put a n hsa).congr fun m=>?_),rfl,keep_upd A.mem_ag fun b o e _=>e,fun b hb=>.inl hb⟩ hp (upd_none hp).1
          rw [getD_set]
          by_cases z:m=a
          · rw [if_pos z,if_pos ⟨z,by rw [ok.sl];exact ha⟩]
          · rw [if_neg z,if_neg fun q=>z q.1]
            rfl
def spJoin (C CR:Addr):Sp:=fun vs H Q _=>∃ (A:RecAd) (r:Nets.Rec) (x y:Nat),vs=[.ref A.p,nV x,nV y]∧RecAt C CR H A r∧RecOk r∧Ends_ C CR H A r (.join 0 x y) Q
theorem nV_eq {x y:Nat}:(nV x=nV y)↔x=y:=⟨fun e=>by injection e with e;omega,fun e=>by rw [e]⟩
theorem sc_join_points:FnScope ["record", "x", "y"] ["record", "x", "y"] (defScope s_join_points):=⟨rfl,rfl,rfl,by decide +kernel,rfl,by decide +kernel,by decide +kernel⟩
theorem ok_join_points {f:Addr} {fd:FuncData} (F:Fun K "join_points" "join_points" s_join_points f fd) (T:Txt K mg C CR) (D_is_point:Df P w K mg base "is_point" ["record", "point"] 1 (spIsPoint C CR)) :
    FnOk P w K mg base CX0 2 f fd ["record", "x", "y"] (spJoin C CR):=by
  refine F.ok sc_join_points (fun vs H Q E h=>?_) (fun cdv A0 outer s H vs Q E hr h=>?_)
  · obtain ⟨A,r,x,y,rfl,_⟩:=h
    rfl
  · obtain ⟨A,r,x,y,rfl,h1,ok,k⟩:=h
    have nd:=sc_join_points.nd
    have hu:=hu_of hr
    obtain ⟨kvs,hjo,djo⟩:=h1.jo
    have hlen:=djo.len_le (B:=272) fun n hn=>ok.at_lt hn
    have no:(r.isPort x=false∨r.isPort y=false∨x=y)→∀ p,H p=none→Q (.ref p) (upd H p (.lst [.int (-4)])):=fun z p hp=>by
      exact ends_same (a:=Nets.says (-4)) h1 k (by unfold Nets.does;dsimp only;rw [if_pos z]) (Same.refl _) hp
    refine ⟨_,(pss_cons (ps_if (PW.pt (pw_or (pt_cmpR op_eq (pv 1) (pv 2) (nomark _)) (pw_or (pt_not (pt_val (pe_callD D_is_point (hr.mono (by decide)) rfl (pa_cons (pv 0) (pa_cons (pv 1) pa_nil))))) (pw_or1 (pt_not (pt_val (pe_callD D_is_point (hr.mono (by decide)) rfl (pa_cons (pv 0) (pa_cons (pv 2) pa_nil))))))))) (pss_one (ps_ret (pe_lst (pa_cons (pe_glV rfl T.c_NOT_THERE) pa_nil)))) pss_nil) (pss_cons (ps_if (PW.pt (pw_or (pt_cmp (pc_din hu (pv 1) (pe_fld (pv 0) rfl))) (pw_or1 (pt_cmp (pc_din hu (pv 2) (pe_fld (pv 0) rfl)))))) (pss_one (ps_ret (pe_lst (pa_cons (pe_glV rfl T.c_TAKEN) pa_nil)))) pss_nil) (pss_cons (ps_dput hu (pe_fld (pv 0) rfl) (pv 1) (pv 2) rfl) (pss_cons (ps_dput hu (pe_fld (pv 0) rfl) (pv 2) (pv 1) rfl) (pss_one (ps_ret (pe_lst (pa_cons pe_int pa_nil)))))))),?_⟩
    refine ⟨_,rfl,_,rfl,rfl,_,rfl,ite2 (fun c=>?_) (fun c=>?_)⟩
    · have c:x=y:=nV_eq.mp (of_decide_eq_true c)
      exact iteT ⟨(by show 1≤sizeLine;decide),no (.inr (.inr c))⟩
    · have c:x≠y:=fun z=>c (decide_eq_true (nV_eq.mpr z))
      refine ⟨_,rfl,_,rfl,A,r,x,rfl,h1,ok,_,rfl,ite2 (fun c1=>?_) (fun c1=>?_)⟩
      · exact iteT ⟨(by show 1≤sizeLine;decide),no (.inl (by simpa using c1))⟩
      · refine ⟨_,rfl,_,rfl,A,r,y,rfl,h1,ok,_,rfl,ite2 (fun c2=>?_) (fun c2=>?_)⟩
        · exact ⟨(by show 1≤sizeLine;decide),no (.inr (.inl (by simpa using c2)))⟩
        · have c1:r.isPort x=true:=by simpa using c1
          have c2:r.isPort y=true:=by simpa using c2
          have c3:¬ (r.isPort x=false∨r.isPort y=false∨x=y):=by
            rw [c1,c2];simp [c]
          have hx:=ok.port_lt c1
          have hy:=ok.port_lt c2
          have no2:((r.at_ x).isSome=true∨(r.at_ y).isSome=true)→∀ p,H p=none→Q (.ref p) (upd H p (.lst [.int (-5)])):=fun z p hp=>by
            exact ends_same (a:=Nets.says (-5)) h1 k (by unfold Nets.does;dsimp only;rw [if_neg c3,if_pos z]) (Same.refl _) hp
          refine ⟨_,rfl,_,rfl,A.p,C,A.dx,_,_,rfl,h1.obj,T.cl,T.nJoined,recF_joined A,A.jo,_,rfl,DGet.k (k:=Sum.inl (x:Int)) hjo,_,rfl,ite2 (fun c4=>?_) (fun c4=>?_)⟩
          · rw [djo.val x,Option.isSome_map] at c4
            exact iteT ⟨(by show 1≤sizeLine;decide),no2 (.inl c4)⟩
          · refine ⟨_,rfl,_,rfl,A.p,C,A.dx,_,_,rfl,h1.obj,T.cl,T.nJoined,recF_joined A,A.jo,_,rfl,DGet.k (k:=Sum.inl (y:Int)) hjo,_,rfl,ite2 (fun c5=>?_) (fun c5=>?_)⟩
            · rw [djo.val y,Option.isSome_map] at c5
              exact ⟨(by show 1≤sizeLine;decide),no2 (.inr c5)⟩
            · rw [djo.val x,Option.isSome_map] at c4
              rw [djo.val y,Option.isSome_map] at c5
              have ex:r.at_ x=none:=by simpa using c4
              have ey:r.at_ y=none:=by simpa using c5
              have hp1:(upd H A.jo (.dK (putK kvs (.inl (x:Int)) (nV y)))) A.p=some (.ins C A.dx (recF A)):=by rw [upd_ne h1.ap.pj];exact h1.obj
              have l1:=length_putK kvs (.inl (x:Int)) (nV y)
              refine ⟨_,rfl,_,rfl,A.p,C,A.dx,_,_,rfl,h1.obj,T.cl,T.nJoined,recF_joined A,_,rfl,A.jo,_,rfl,DPut.k (k:=Sum.inl (x:Int)) hjo (small1000 (by omega)),
                _,rfl,_,rfl,A.p,C,A.dx,_,_,rfl,hp1,T.cl,T.nJoined,recF_joined A,_,rfl,A.jo,_,rfl,DPut.k (k:=Sum.inl (y:Int)) upd_same (small1000 (by omega)),(by show 1≤sizeLine;decide),fun p hp=>?_⟩
              have d2:=(djo.put x y ex).put y x (by show (if y=x then some y else r.at_ y)=none;rw [if_neg (fun z=>c z.symm),ey])
              refine ends_new (r':=⟨r.arity,r.rules,r.sym,(r.link.set x (some y)).set y (some x)⟩) (a:=Nets.says 0) (A':=A) (p:=p) k (by unfold Nets.does;dsimp only;rw [if_neg c3,if_neg (by rw [ex,ey];simp)])
                ⟨h1.setJo (fun b hb o e=>by rw [upd_ne hb,upd_ne hb];exact e) upd_same (d2.congr fun m=>?_),rfl,keep_upd A.mem_jo (keep_upd A.mem_jo fun b o e _=>e),fun b hb=>.inl hb⟩ hp (upd_none (upd_none hp).1).1
              rw [getD_set,getD_set,List.length_set,ok.ll]
              by_cases z:m=y
              · rw [if_pos z,if_pos ⟨z,hy⟩]
              · rw [if_neg z,if_neg (show ¬ (m=y∧y<272) from fun q=>z q.1)]
                by_cases z2:m=x
                · rw [if_pos z2,if_pos ⟨z2,hx⟩]
                · rw [if_neg z2,if_neg (show ¬ (m=x∧x<272) from fun q=>z2 q.1)]
                  rfl
end
def rSortedA (K:PySem.W.Frag):List V→Hp→VK→Prop:=fun vs H Q=>∃ (a:Addr) (ns:List Int),vs=[V.ref a]∧SqL K H a (ns.map V.int) ∧
  ∀ (ns' : List Int) (p:Addr),ns'.Perm ns→ns'.Pairwise (·≤·)→H p=none→Q (.ref p) (upd H p (.lst (ns'.map V.int)))
theorem call_sortedL {X:Cx}:CallR X (.builtin "sorted") (rSortedA X.K):=by
  intro pins s σ H vs us Q I r h
  obtain ⟨a,ns,rfl,hs,q⟩:=h
  obtain ⟨its,rv,hl,hz⟩:=I.list hs
  rw [Vals.ref1 r]
  have hi:=rv.ints
  have hzl:ns.length≤sizeLine:=by rw [List.length_map] at hz;exact hz
  refine PyProof.Rows.sorted_intsAny hl.isList hi (by rw [hi.length];exact hzl) fun out ns' h1 h2 h3=>?_
  obtain ⟨ep,he'⟩:=PyProof.Rows.sortedAll_at s.heap its out
  have hlen:(ns'.map V.int).length≤sizeLine:=by rw [List.length_map,h2.length_eq];exact hzl
  exact ⟨.ref _,upd H (s.heap.objs.size+1) (.lst (ns'.map V.int)),I.laid (t':=s.toks) (fun _ _=>PyProof.Rows.sortedAll_old) (Nat.le_succ _) ⟨hlen,out.toList,ep,vals_of_ints h1,he'⟩,rfl,q ns' _ h2 h3 (I.hok.fresh (Nat.le_succ _))⟩
theorem ints_by:∀ (us:List Value) (ns:List Int),us.length=ns.length→(∀ (j:Nat) (v:Value),us[j]?=some v→∃ i t,ns[j]?=some i∧v=Value.int i t)→IntsAre us ns
  | [],[],_,_=>.nil
  | [],_::_,h,_=>by cases h
  | _::_,[],h,_=>by cases h
  | u::us,n::ns,h,f=>by
    obtain ⟨i,t,e1,e2⟩:=f 0 u rfl
    have e3:n=i:=Option.some.inj e1
    subst e3 e2
    exact .cons n t (ints_by us ns (by simpa using h) fun j v e=>f (j+1) v (by simpa using e))
def rSortedD:List V→Hp→VK→Prop:=fun vs H Q=>∃ (a:Addr) (kvs:List (Key × V)) (ns:List Int),vs=[V.ref a]∧H a=some (.dK kvs)∧kvs.map (·.1)=ns.map (fun i=>(Sum.inl i:Key)) ∧
  ∀ (ns' : List Int) (p:Addr),ns'.Perm ns→ns'.Pairwise (·≤·)→H p=none→Q (.ref p) (upd H p (.lst (ns'.map V.int)))
theorem call_sortedD {X:Cx} (hc:X.calm=true):CallR X (.builtin "sorted") rSortedD:=by
  intro pins s σ H vs us Q I r h
  obtain ⟨a,kvs,ns,rfl,ha,hkey,q⟩:=h
  rw [Vals.ref1 r]
  obtain ⟨z,hd,vs,rel,dd⟩:=dk_of I.hok ha
  obtain ⟨ep,hat⟩:=dd.dictAt
  have hkl:kvs.length=ns.length:=by simpa using congrArg List.length hkey
  have hvl:vs.length=ns.length:=by rw [← rel.length];exact hkl
  refine Calls.call_function_entry kind_sorted plain_sorted entry_sorted (args_sorted1 _) ?_
  unfold Builtin.«sorted»
  refine wpAny_bind (m:=checkCount "sorted" 1 1 _) (wpAny_pure ?_)
  refine wpAny_bind (PySem.W.kdu_collect (A:=X.A.in1) (PySem.W.kdl_dict (knd:=mixKind X.prog X.w) (kvs:=vs) (ep:=ep) hd) (I.ok.hd hc) hat (by rw [← rel.length];exact z) fun h' tk acc hk' hacc=>?_)
  have hal:acc.toList.length=ns.length:=by rw [Array.length_toList,hacc.1,hvl]
  have hi:IntsAre acc.toList ns:=ints_by _ _ hal fun j v e=>by
    obtain ⟨k,x,h1,h2⟩:=hacc.2 j v (by rw [← Array.getElem?_toList];exact e)
    have h3:(vs.map (·.1))[j]?=some k:=by rw [List.getElem?_map,h1];rfl
    rw [← rel.keys,hkey,List.getElem?_map] at h3
    cases e4:ns[j]? with
    | none=>rw [e4] at h3;cases h3
    | some i =>
      rw [e4] at h3
      have e5:(Sum.inl i:Key)=k:=Option.some.inj h3
      subst e5
      obtain ⟨t,e6⟩:=Value.isInt_shape (k:=i) (v:=v) h2
      exact ⟨i,t,rfl,e6⟩
  have hL:acc.toList.length≤sizeLine:=by rw [hal,← hkl];exact z
  refine wpAny_bind (wpAny_newList ?_ hL)
  have I1:Inv X pins σ H { s with heap:=h',toks:=tk }:=I.kept (t':=tk) hk'
  have hoL:(h'.push (seqObj "list" acc.toList.toArray 0)).get? h'.objs.size=some (seqObj "list" acc.toList.toArray 0):=Heap.get?_push_size _ rfl
  refine wpAny_bind (wpAny_holding (wpAny_call_entry slot_list_sort ⟨_,hoL,rfl⟩ entry_list_sort (list_sort_treeAny hoL hi hL fun out ns' a1 a2 a3=>⟨_,rfl,?_⟩) (args_list_sort _)))
  refine wpAny_pure ⟨_,rfl,?_⟩
  obtain ⟨ep',he'⟩:=PyProof.Rows.sortedHeap_at (out:=out) hoL
  have hlen:(ns'.map V.int).length≤sizeLine:=by rw [List.length_map,a2.length_eq,← hkl];exact z
  refine ⟨.ref _,upd H h'.objs.size (.lst (ns'.map V.int)),I1.laid (t':=tk) (fun b u e=>?_) (Nat.le_refl _) ⟨hlen,out.toList,ep',vals_of_ints a1,he'⟩,rfl,q ns' _ a2 a3 (I1.hok.fresh (Nat.le_refl _))⟩
  have hb:b<h'.objs.size:=Heap.lt_size e
  rw [PyProof.Rows.sortedHeap_old (Nat.ne_of_lt hb) (by rw [size_push'];exact Nat.lt_succ_of_lt hb)]
  exact Heap.get?_push_of_some _ e
section
variable {P:Program} {w:World} {K:PySem.W.Frag} {mg:Str→Option Value} {base:Heap} {C CR:Addr}
def spPart (C CR:Addr):Sp:=fun vs H Q _=>∃ (A:RecAd) (r:Nets.Rec) (x:Nat),vs=[.ref A.p,nV x]∧RecAt C CR H A r∧RecOk r∧Ends_ C CR H A r (.part 0 x) Q
theorem sc_part_point:FnScope ["record", "x", "other"] ["record", "x"] (defScope s_part_point):=⟨rfl,rfl,rfl,by decide +kernel,rfl,by decide +kernel,by decide +kernel⟩
theorem ok_part_point {f:Addr} {fd:FuncData} (F:Fun K "part_point" "part_point" s_part_point f fd) (T:Txt K mg C CR) (D_is_point:Df P w K mg base "is_point" ["record", "point"] 1 (spIsPoint C CR)) :
    FnOk P w K mg base CX0 2 f fd ["record", "x"] (spPart C CR):=by
  refine F.ok sc_part_point (fun vs H Q E h=>?_) (fun cdv A0 outer s H vs Q E hr h=>?_)
  · obtain ⟨A,r,x,rfl,_⟩:=h
    rfl
  · obtain ⟨A,r,x,rfl,h1,ok,k⟩:=h
    have nd:=sc_part_point.nd
    have hu:=hu_of hr
    obtain ⟨kvs,hjo,djo⟩:=h1.jo
    refine ⟨_,(pss_cons (ps_if (pt_not (pt_val (pe_callD D_is_point (hr.mono (by decide)) rfl (pa_cons (pv 0) (pa_cons (pv 1) pa_nil))))) (pss_one (ps_ret (pe_lst (pa_cons (pe_glV rfl T.c_NOT_THERE) pa_nil)))) pss_nil) (pss_cons (ps_if (pt_cmp (pc_dnotin hu (pv 1) (pe_fld (pv 0) rfl))) (pss_one (ps_ret (pe_lst (pa_cons (pe_glV rfl T.c_NOT_JOINED) pa_nil)))) pss_nil) (pss_cons (ps_set (i:=2) nd rfl (Or.inl rfl) (pe_dpop1 (pe_fld (pv 0) rfl) (pv 1) ⟨rfl,rfl,rfl,rfl⟩)) (pss_cons (ps_expr (pe_dpop1 (pe_fld (pv 0) rfl) (pv 2) ⟨rfl,rfl,rfl,rfl⟩)) (pss_one (ps_ret (pe_lst (pa_cons pe_int (pa_cons (pv 2) pa_nil))))))))),?_⟩
    refine ⟨_,rfl,_,rfl,A,r,x,rfl,h1,ok,_,rfl,ite2 (fun c1=>?_) (fun c1=>?_)⟩
    · have c1:r.isPort x=false:=by simpa using c1
      refine ⟨(by show 1≤sizeLine;decide),fun p hp=>?_⟩
      exact ends_same (a:=Nets.says (-4)) h1 k (by unfold Nets.does;dsimp only;rw [if_pos c1]) (Same.refl _) hp
    · have c1:r.isPort x=true:=by simpa using c1
      have c1' : ¬ r.isPort x=false:=by rw [c1];simp
      refine ⟨_,rfl,_,rfl,A.p,C,A.dx,_,_,rfl,h1.obj,T.cl,T.nJoined,recF_joined A,A.jo,_,rfl,DGet.k (k:=Sum.inl (x:Int)) hjo,_,rfl,?_⟩
      rw [djo.val x]
      cases hx:r.at_ x with
      | none =>
        refine iteT ⟨(by show 1≤sizeLine;decide),fun p hp=>?_⟩
        exact ends_same (a:=Nets.says (-5)) h1 k (by unfold Nets.does;dsimp only;rw [if_neg c1',hx]) (Same.refl _) hp
      | some y =>
        obtain ⟨l1,l2,l3,l4⟩:=ok.linkOk x y hx
        have hxl:=ok.port_lt l1
        have hyl:=ok.port_lt l2
        have vx:valV kvs (.inl (x:Int))=some (nV y):=by rw [djo.val,hx];rfl
        have hp1:(upd H A.jo (.dK (dropK kvs (.inl (x:Int))))) A.p=some (.ins C A.dx (recF A)):=by rw [upd_ne h1.ap.pj];exact h1.obj
        have d1:=djo.drop x
        have vy:valV (dropK kvs (.inl (x:Int))) (.inl (y:Int))=some (nV x):=by
          rw [d1.val,if_neg (fun z=>l4 z.symm),l3];rfl
        refine iteF ⟨_,rfl,A.p,C,A.dx,_,_,rfl,h1.obj,T.cl,T.nJoined,recF_joined A,A.jo,rfl,.inl ⟨kvs,.inl hjo⟩,_,rfl,kvs,Sum.inl (x:Int),nV y,hjo,rfl,vx,
          _,rfl,A.p,C,A.dx,_,_,rfl,hp1,T.cl,T.nJoined,recF_joined A,A.jo,rfl,.inl ⟨_,.inl upd_same⟩,_,rfl,_,Sum.inl (y:Int),nV x,upd_same,rfl,vy,_,rfl,(by show 2≤sizeLine;decide),fun p hp=>?_⟩
        have d2:=d1.drop y
        refine ends_new (r':=⟨r.arity,r.rules,r.sym,(r.link.set x none).set y none⟩) (a:=Nets.tells [y]) (A':=A) (p:=p) k (by unfold Nets.does;dsimp only;rw [if_neg c1',hx])
          ⟨h1.setJo (fun b hb o e=>by rw [upd_ne hb,upd_ne hb];exact e) upd_same (d2.congr fun m=>?_),rfl,keep_upd A.mem_jo (keep_upd A.mem_jo fun b o e _=>e),fun b hb=>.inl hb⟩ hp (upd_none (upd_none hp).1).1
        rw [getD_set,getD_set,List.length_set,ok.ll]
        by_cases z:m=y
        · rw [if_pos z,if_pos ⟨z,hyl⟩]
        · rw [if_neg z,if_neg (show ¬ (m=y∧y<272) from fun q=>z q.1)]
          by_cases z2:m=x
          · rw [if_pos z2,if_pos ⟨z2,hxl⟩]
          · rw [if_neg z2,if_neg (show ¬ (m=x∧x<272) from fun q=>z2 q.1)]
            rfl
def spIsPair (C CR:Addr):Sp:=fun vs H Q _=>∃ (A:RecAd) (r:Nets.Rec) (a:Nat),vs=[.ref A.p,nV a]∧RecAt C CR H A r∧RecOk r∧∀ H',Same H H'→Q (.bl (r.pairAt a).isSome) H'
theorem pairAt_eq (r:Nets.Rec) (a:Nat) {s z:Nat} (hs:r.symAt a=some s) (hz:r.at_ (4*a)=some z):r.pairAt a=if Nets.NAMES≤z∨z%4≠0∨z / 4≤a then none else match r.symAt (z / 4) with
    | none=>none
    | some t=>(r.ruleFor s t).map fun (R:Nets.Rule)=>if R.s=s then ⟨a,z / 4,R⟩ else ⟨z / 4,a,R⟩:=by
  unfold Nets.Rec.pairAt
  rw [hs,hz]
  rfl
theorem RecOk.port_sym {r:Nets.Rec} {z:Nat} (h:r.isPort z=true) (hz:z<256):∃ t,r.symAt (z / 4)=some t∧z%4≤r.of t:=by
  unfold Nets.Rec.isPort at h
  rw [if_neg (by unfold Nets.NAMES;omega)] at h
  cases e:r.symAt (z / 4) with
  | none=>rw [e] at h;cases h
  | some t=>rw [e] at h;exact ⟨t,rfl,of_decide_eq_true h⟩
theorem sc_is_pair:FnScope ["record", "agent", "first_port", "facing", "other"] ["record", "agent"] (defScope s_is_pair):=⟨rfl,rfl,rfl,by decide +kernel,rfl,by decide +kernel,by decide +kernel⟩
theorem ok_is_pair {f:Addr} {fd:FuncData} (F:Fun K "is_pair" "is_pair" s_is_pair f fd) (T:Txt K mg C CR) (D_rule_key:Df P w K mg base "rule_key" ["s", "t"] 1 spRuleKey) :
    FnOk P w K mg base CX0 2 f fd ["record", "agent"] (spIsPair C CR):=by
  refine F.ok sc_is_pair (fun vs H Q E h=>?_) (fun cdv A0 outer s H vs Q E hr h=>?_)
  · obtain ⟨A,r,x,rfl,_⟩:=h
    rfl
  · obtain ⟨A,r,a,rfl,h1,ok,k⟩:=h
    have nd:=sc_is_pair.nd
    have hu:=hu_of hr
    obtain ⟨kvs,hjo,djo⟩:=h1.jo
    obtain ⟨kva,hag,dag⟩:=h1.ag
    have e4:(4:Int)*(a:Int)=((4*a:Nat):Int):=by omega
    refine ⟨_,(pss_cons (ps_if (pt_cmp (pc_dnotin hu (pv 1) (pe_fld (pv 0) rfl))) (pss_one (ps_ret pe_bl)) pss_nil) (pss_cons (ps_set (i:=2) nd rfl (Or.inl rfl) (pe_op op_mul (pe_glV rfl T.c_PORTS_APART) (pv 1))) (pss_cons (ps_if (pt_cmp (pc_dnotin hu (pv 2) (pe_fld (pv 0) rfl))) (pss_one (ps_ret pe_bl)) pss_nil) (pss_cons (ps_set (i:=3) nd rfl (Or.inl rfl) (pe_dget hu (pe_fld (pv 0) rfl) (pv 2) (fun _ _=>rfl))) (pss_cons (ps_if (PW.pt (pw_or (pt_cmpR op_ge (pv 3) (pe_glV rfl T.c_FIRST_NAME) (nomark _)) (pw_or1 (pt_cmpR op_ne (pe_op op_mod (pv 3) (pe_glV rfl T.c_PORTS_APART)) pe_int (nomark _))))) (pss_one (ps_ret pe_bl)) pss_nil) (pss_cons (ps_set (i:=4) nd rfl (Or.inl rfl) (pe_op op_fdiv (pv 3) (pe_glV rfl T.c_PORTS_APART))) (pss_cons (ps_if (pt_cmpR op_lt (pv 4) (pv 1) (nomark _)) (pss_one (ps_ret pe_bl)) pss_nil) (pss_one (ps_ret (pe_cmp (pc_din hu (pe_callD D_rule_key (hr.mono (by decide)) rfl (pa_cons (pe_dget hu (pe_fld (pv 0) rfl) (pv 1) (fun _ _=>rfl)) (pa_cons (pe_dget hu (pe_fld (pv 0) rfl) (pv 4) (fun _ _=>rfl)) pa_nil))) (pe_fld (pv 0) rfl)))))))))))),?_⟩
    refine ⟨_,rfl,_,rfl,A.p,C,A.dx,_,_,rfl,h1.obj,T.cl,T.nAgents,recF_agents A,A.ag,_,rfl,DGet.k (k:=Sum.inl (a:Int)) hag,_,rfl,?_⟩
    rw [dag.val]
    cases hsy:r.symAt a with
    | none =>
      have e:(r.pairAt a).isSome=false:=by
        unfold Nets.Rec.pairAt
        rw [hsy]
        rfl
      have q:=k H (Same.refl _)
      rw [e] at q
      exact iteT q
    | some sy =>
    refine iteF ?_
    refine ⟨_,rfl,_,_,rfl,rfl,.inl ⟨by decide,by decide⟩,_,rfl,_,rfl,A.p,C,A.dx,_,_,rfl,h1.obj,T.cl,T.nJoined,recF_joined A,A.jo,_,rfl,(by show DGet H A.jo (V.int (4*(a:Int))) _;rw [e4];exact DGet.k (k:=Sum.inl ((4*a:Nat):Int)) hjo),_,rfl,?_⟩
    rw [djo.val]
    cases hz:r.at_ (4*a) with
    | none =>
      have e:(r.pairAt a).isSome=false:=by
        unfold Nets.Rec.pairAt
        rw [hsy,hz];rfl
      have q:=k H (Same.refl _)
      rw [e] at q
      exact iteT q
    | some z =>
      have pe:=pairAt_eq r a hsy hz
      obtain ⟨l1,l2,l3,l4⟩:=ok.linkOk _ _ hz
      have dz:DGet H A.jo (V.int (4*(a:Int))) (some (nV z)):=by
        have q:=DGet.k (H:=H) (k:=Sum.inl ((4*a:Nat):Int)) hjo
        rw [djo.val,hz] at q
        rw [e4]
        exact q
      have no:(Nets.NAMES≤z∨z%4≠0∨z / 4≤a)→Q (.bl false) H:=fun c=>by
        rw [if_pos c] at pe
        have q:=k H (Same.refl _)
        rw [pe] at q
        exact q
      refine iteF ⟨_,rfl,A.p,C,A.dx,_,_,rfl,h1.obj,T.cl,T.nJoined,recF_joined A,_,rfl,A.jo,nV z,rfl,dz,_,rfl,_,_,rfl,rfl,_,rfl,ite2 (fun c=>?_) (fun c=>?_)⟩
      · have c:(256:Int)≤z:=of_decide_eq_true c
        exact iteT (no (.inl (by unfold Nets.NAMES;omega)))
      · have c:¬ (256:Int)≤z:=fun q=>c (decide_eq_true q)
        refine ⟨_,rfl,_,_,rfl,rfl,(by show (0:Int)<4;decide),rfl,_,rfl,ite2 (fun c2=>?_) (fun c2=>?_)⟩
        · have c2:¬ (V.int ((z:Int)%4)=V.int 0):=by simpa using c2
          exact no (.inr (.inl fun q=>c2 (vint (by omega))))
        · have c2:V.int ((z:Int)%4)=V.int 0:=by simpa using c2
          have c2:z%4=0:=by injection c2 with c2;omega
          refine ⟨_,rfl,_,_,rfl,rfl,⟨by decide,by decide⟩,_,rfl,_,rfl,_,_,rfl,rfl,_,rfl,ite2 (fun c3=>?_) (fun c3=>?_)⟩
          · have c3:(z:Int) / 4<a:=of_decide_eq_true c3
            exact no (.inr (.inr (by omega)))
          · have c3:¬ (z:Int) / 4<a:=fun q=>c3 (decide_eq_true q)
            have hza:¬ z / 4≤a:=by omega
            obtain ⟨t,ht,_⟩:=RecOk.port_sym l2 (by omega)
            rw [if_neg (by unfold Nets.NAMES;omega),ht] at pe
            have ga:DGet H A.ag (V.int (a:Int)) (some (nV sy)):=by
              have q:=DGet.k (H:=H) (k:=Sum.inl (a:Int)) hag
              rw [dag.val,hsy] at q
              exact q
            have gz:DGet H A.ag (V.int ((z:Int) / 4)) (some (nV t)):=by
              have q:=DGet.k (H:=H) (k:=Sum.inl ((z / 4:Nat):Int)) hag
              rw [dag.val,ht] at q
              exact q
            refine ⟨_,rfl,A.p,C,A.dx,_,_,rfl,h1.obj,T.cl,T.nAgents,recF_agents A,_,rfl,A.ag,nV sy,rfl,ga,_,rfl,A.p,C,A.dx,_,_,rfl,h1.obj,T.cl,T.nAgents,recF_agents A,_,rfl,A.ag,nV t,rfl,gz,sy,t,rfl,fun p hp=>?_⟩
            have s1:Same H (upd H p (.tup ((keyOf sy t).map kV))):=Same.upd (Same.refl _) hp
            have h2:=h1.same s1
            refine ⟨_,rfl,A.p,C,A.dx,_,_,rfl,h2.obj,T.cl,T.nRules,recF_rules A,A.ru,_,rfl,DGet.t h2.ru upd_same,?_⟩
            have q:=k _ s1
            rw [pe,Option.isSome_map] at q
            rcases h1.look sy t with ⟨q1,q2⟩ | ⟨R,i,b,q1,_,_,q2⟩
            · rw [q2];rw [q1] at q;exact q
            · rw [q2];rw [q1] at q;exact q
end
theorem perm_sorted_eq:∀ {l m:List Int},l.Perm m→l.Pairwise (·≤·)→m.Pairwise (·≤·)→l=m
  | [],m,h,_,_=>by rw [h.symm.eq_nil]
  | a::l,[],h,_,_=>by have:=h.length_eq;simp at this
  | a::l,b::m,h,hl,hm=>by
    have e:a=b:=by
      have h1:a∈b::m:=h.mem_iff.mp List.mem_cons_self
      have h2:b∈a::l:=h.mem_iff.mpr List.mem_cons_self
      obtain ⟨p1,_⟩:=List.pairwise_cons.mp hl
      obtain ⟨p2,_⟩:=List.pairwise_cons.mp hm
      rcases List.mem_cons.mp h1 with z | z
      · exact z
      · rcases List.mem_cons.mp h2 with y | y
        · exact y.symm
        · have:=p1 b y
          have:=p2 a z
          omega
    subst e
    rw [perm_sorted_eq (List.Perm.cons_inv h) (List.pairwise_cons.mp hl).2 (List.pairwise_cons.mp hm).2]
def natsI (l:List Nat):List Int:=l.map fun n:Nat=>(n:Int)
theorem natsI_V (l:List Nat):(natsI l).map V.int=nats l:=by
  unfold natsI nats
  rw [List.map_map]
  rfl
theorem natsI_sorted {l:List Nat} (h:l.Pairwise (· < ·)):(natsI l).Pairwise (·≤·):=by
  unfold natsI
  refine List.Pairwise.map _ (fun a b z=>?_) h
  show (a:Int)≤b
  omega
def intKey:Key→Int
  | .inl i=>i
  | .inr _=>0
theorem DictIs.sorted {kvs:List (Key × V)} {f:Nat→Option Nat} (d:DictIs kvs f) {B:Nat} (hB:∀ n,(f n).isSome=true→n<B) :
    kvs.map (·.1)=(kvs.map fun p=>intKey p.1).map (fun i=>(Sum.inl i:Key))∧∀ ns' : List Int,ns'.Perm (kvs.map fun p=>intKey p.1)→ns'.Pairwise (·≤·)→ns'=natsI ((List.range B).filter fun n=>(f n).isSome):=by
  refine ⟨?_,fun ns' hp hs=>?_⟩
  · rw [List.map_map]
    refine List.map_congr_left fun p hp=>?_
    obtain ⟨n,e⟩:=d.key p.1 (List.mem_map.mpr ⟨p,hp,rfl⟩)
    show p.1=Sum.inl (intKey p.1)
    rw [e];rfl
  · have h1:=(d.keys_perm hB).map intKey
    rw [List.map_map,List.map_map] at h1
    have h2:ns'.Perm (natsI ((List.range B).filter fun n=>(f n).isSome)):=hp.trans h1
    exact perm_sorted_eq h2 hs (natsI_sorted (List.Pairwise.filter _ List.pairwise_lt_range))
section
variable {P:Program} {w:World} {K:PySem.W.Frag} {mg:Str→Option Value} {base:Heap} {C CR:Addr}
def spTellPairs (C CR:Addr):Sp:=fun vs H Q _=>∃ (A:RecAd) (r:Nets.Rec),vs=[.ref A.p]∧RecAt C CR H A r∧RecOk r∧Ends_ C CR H A r (.pairs 0) Q
theorem pair_sym {r:Nets.Rec} {a:Nat} (h:(r.pairAt a).isSome=true):(r.symAt a).isSome=true:=by
  unfold Nets.Rec.pairAt at h
  cases e:r.symAt a with
  | none=>rw [e] at h;cases h
  | some s=>rfl
theorem take_snoc {α:Type}:∀ {l:List α} {i:Nat} {x:α},l[i]?=some x→l.take (i+1)=l.take i++[x]
  | [],i,x,h=>by simp at h
  | a::l,0,x,h=>by
    have e:a=x:=Option.some.inj h
    subst e
    rfl
  | a::l,i+1,x,h=>by
    have ih:=take_snoc (l:=l) (i:=i) (x:=x) h
    show a::l.take (i+1)=a::l.take i++[x]
    rw [ih]
    rfl
theorem sc_tell_pairs:FnScope ["record", "agent"] ["record"] (defScope s_tell_pairs):=⟨rfl,rfl,rfl,by decide +kernel,rfl,by decide +kernel,by decide +kernel⟩
theorem ok_tell_pairs {f:Addr} {fd:FuncData} (F:Fun K "tell_pairs" "tell_pairs" s_tell_pairs f fd) (T:Txt K mg C CR) (D_is_pair:Df P w K mg base "is_pair" ["record", "agent"] 2 (spIsPair C CR)) :
    FnOk P w K mg base CX0 3 f fd ["record"] (spTellPairs C CR):=by
  refine F.ok sc_tell_pairs (fun vs H Q E h=>?_) (fun cdv A0 outer s H vs Q E hr h=>?_)
  · obtain ⟨A,r,rfl,_⟩:=h
    rfl
  · obtain ⟨A,r,rfl,h1,ok,k⟩:=h
    have nd:=sc_tell_pairs.nd
    have hu:=hu_of hr
    obtain ⟨kvs,hag,dag⟩:=h1.ag
    obtain ⟨hkey,hsrt⟩:=dag.sorted (B:=64) fun n hn=>ok.sym_lt hn
    refine ⟨_,(pss_one (ps_ret (pe_op op_cat (pe_lst (pa_cons pe_int pa_nil))
      (pe_lc (own:=[("agent",1)]) rfl nd (pi_list (pe_callB (call_sortedD rfl) (by rfl) T.b_sorted (by rfl) (pa_cons (pe_fld (pv 0) rfl) pa_nil)))
        (blkOk_by (by rfl)) (fun _ _ _ _ _=>pg_name (i:=1) nd rfl (Or.inl rfl)) (fun _ _ _ _ _=>pts_one (pt_val (pe_callD D_is_pair (hr.mono (by decide)) rfl (pa_cons (pv 0) (pa_cons (pv 1) pa_nil))))) (fun _ _ _ _ _=>pv 1))))),?_⟩
    refine ⟨(by show 1≤sizeLine;decide),fun l0 hl0=>?_⟩
    have s1:Same H (upd H l0 (.lst [V.int 0])):=Same.upd (Same.refl _) hl0
    have h2:=h1.same s1
    refine ⟨_,rfl,A.p,C,A.dx,_,_,rfl,h2.obj,T.cl,T.nAgents,recF_agents A,A.ag,kvs,_,rfl,s1 _ _ hag,hkey,fun ns' p hperm hpair hp=>?_⟩
    have ens:=hsrt ns' hperm hpair
    subst ens
    have s2:Same H (upd (upd H l0 (.lst [V.int 0])) p (.lst ((natsI ((List.range 64).filter fun n=>(r.symAt n).isSome)).map V.int))):=Same.upd s1 hp
    have hl0' : (upd (upd H l0 (.lst [V.int 0])) p (.lst ((natsI ((List.range 64).filter fun n=>(r.symAt n).isSome)).map V.int))) l0=some (.lst [V.int 0]):=by
      rw [upd_ne (ne_of_none upd_same hp)];exact upd_same
    generalize hL:(List.range 64).filter (fun n=>(r.symAt n).isSome)=L at *
    generalize hH2:upd (upd H l0 (.lst [V.int 0])) p (.lst ((natsI L).map V.int))=H2 at *
    have hpp:H2 p=some (.lst ((natsI L).map V.int)):=by rw [← hH2];exact upd_same
    have h3:L.length≤64:=by
      rw [← hL]
      exact Nat.le_trans (List.length_filter_le _ _) (by rw [List.length_range];exact Nat.le_refl _)
    refine ⟨p,rfl,⟨_,SqL.of hpp⟩,fun D hD=>lc_list (K:=K) (a:=p) (xs:=(natsI L).map V.int) (fun i H'=>Same H2 H'∧H' D=some (.lst (nats ((L.take i).filter fun a=>(r.pairAt a).isSome))))
      ⟨Same.upd (Same.refl _) hD,upd_same⟩ (fun i H' _ ⟨s3,_⟩=>SqL.of (s3 _ _ hpp)) ?_ ?_⟩
    · rintro i x H' hi ⟨s3,hD'⟩
      rw [natsI_V] at hi
      have hi2:L[i]?.map nV=some x:=by rw [← List.getElem?_map];exact hi
      obtain ⟨a,ha,rfl⟩:=Option.map_eq_some_iff.mp hi2
      have hmem:a∈L:=List.mem_of_getElem? ha
      have hsa:(r.symAt a).isSome=true:=by rw [← hL] at hmem;exact (List.mem_filter.mp hmem).2
      refine ⟨rfl,_,rfl,_,rfl,A,r,a,rfl,h1.same (s2.trans s3),ok,fun H'' s4=>⟨_,rfl,?_⟩⟩
      have et:=take_snoc ha
      have hD'':=s4 _ _ hD'
      cases hpa:(r.pairAt a).isSome with
      | true =>
        refine iteT ⟨_,rfl,_,hD'',?_,?_,?_⟩
        · rw [List.length_map]
          have q1:=List.length_filter_le (fun a=>(r.pairAt a).isSome) (L.take i)
          rw [List.length_take] at q1
          exact small1000 (by omega)
        · exact fun b o e=>by
            rw [upd_ne (ne_of_none e hD)]
            exact s4 _ _ (s3 _ _ e)
        · rw [upd_same,et,List.filter_append,List.filter_cons,if_pos hpa,nats,nats,List.map_append]
          rfl
      | false =>
        refine iteF ⟨s3.trans s4,?_⟩
        rw [et,List.filter_append,List.filter_cons,if_neg (by rw [hpa];simp),List.filter_nil,List.append_nil]
        exact hD''
    · rintro H' ⟨s3,hD'⟩
      rw [List.length_map,natsI,List.length_map,List.take_length] at hD'
      refine ⟨l0,D,_,_,rfl,rfl,s3 _ _ hl0',hD',?_,fun p2 hp2=>?_⟩
      · rw [List.length_map]
        refine Nat.le_of_lt (small1000 ?_)
        show 1+_≤1000
        have:=List.length_filter_le (fun a=>(r.pairAt a).isSome) L
        omega
      · have e:[V.int 0]++nats (L.filter fun a=>(r.pairAt a).isSome)=ansV (Nets.tells r.pairs):=by
          show V.int 0::_=V.int 0::nats r.pairs
          have e2:(L.filter fun a=>(r.pairAt a).isSome)=r.pairs:=by
            unfold Nets.Rec.pairs
            rw [← hL,List.filter_filter]
            refine List.filter_congr fun a _=>?_
            cases hpa:(r.pairAt a).isSome with
            | true=>rw [pair_sym hpa];rfl
            | false=>rfl
          rw [e2]
          rfl
        rw [e]
        exact ends_same (a:=Nets.tells r.pairs) h1 k rfl (s2.trans s3) hp2
end
theorem for_enum {K:PySem.W.Frag} {a:Addr} {xs:List V} {g:TG} {tb:TS} {D:Ends} {σ:L2.St} {H:Hp} (Pv:Nat→L2.St→Hp→Prop) (h0:Pv 0 σ H) (hl:∀ i σ H,i≤xs.length→Pv i σ H→SqL K H a xs)
    (hs:∀ i x σ H T,xs[i]?=some x→H T=none→Pv i σ H→g (.ref T) σ (upd H T (.tup [.int (i:Nat),x])) fun σ2 H2=>tb { D with nx:=Pv (i+1),ct:=Pv (i+1),bk:=D.nx } σ2 H2) (hd:∀ σ H,Pv xs.length σ H→D.nx σ H) :
    ∃ W:Nat→Nat→L2.St→Hp→Prop,(∃ m,W 0 m σ H)∧∀ i m σ H,W i m σ H →
      ((Ite K a).stop i H∧D.nx σ H)∨((Ite K a).go i H∧∃ N:L2.St→Hp→Prop,(∀ σ' H',N σ' H'→∃ m',m'<m∧W (i+1) m' σ' H')∧∀ x H',(Ite K a).yld i H x H'→g x σ H' fun σ2 H2=>tb { D with nx:=N,ct:=N,bk:=D.nx } σ2 H2):=by
  refine ⟨fun i m σ H=>m=xs.length - i∧i≤xs.length∧Pv i σ H,⟨xs.length,by simp,Nat.zero_le _,h0⟩,?_⟩
  rintro i m σ H ⟨rfl,hi,p⟩
  have q:=hl i σ H hi p
  by_cases hlt:i<xs.length
  · refine .inr ⟨⟨xs,xs[i],q,by simp [hlt]⟩,Pv (i+1),fun σ' H' p'=>⟨xs.length - (i+1),by omega,rfl,hlt,p'⟩,fun x H' y=>?_⟩
    obtain ⟨T,z,rfl,hT,rfl,y⟩:=y
    exact hs i z σ H T (y xs q) hT p
  · have e:i=xs.length:=by omega
    subst e
    exact .inl ⟨⟨xs,q,Nat.le_refl _⟩,hd σ H p⟩
theorem fits {i:Int} (h1 : -1000000000≤i) (h2:i≤1000000000):Builtin.Range.rangeFitsLong i=true:=by
  unfold Builtin.Range.rangeFitsLong
  rw [Bool.and_eq_true]
  exact ⟨decide_eq_true (by omega),decide_eq_true (by omega)⟩
theorem rg2 {n:Nat} (h:n≤1000000):RgC 0 (2*(n:Int)) 2 n:=by
  have e:Builtin.Range.rangeSize 0 (2*(n:Int)) 2=(n:Int):=by
    unfold Builtin.Range.rangeSize
    rw [if_pos (by decide)]
    split <;> omega
  refine ⟨by decide,by decide,?_,e⟩
  unfold Builtin.Range.small
  rw [e,fits (i:=0) (by omega) (by omega),fits (i:=2*(n:Int)) (by omega) (by omega),fits (i:=2) (by omega) (by omega),fits (i:=(n:Int)) (by omega) (by omega),if_pos (by decide),fits (i:=2*(n:Int)+(2 - 1)) (by omega) (by omega),Bool.or_true]
  rfl
def intsD (ns:List Int):PyData:=.list (ns.map PyData.int)
theorem dp_ints {K:PySem.W.Frag} {H:Hp}:∀ ns:List Int,DpAll K H (ns.map V.int) (ns.map PyData.int)
  | []=>.nil
  | n::r=>.cons (.int n) (dp_ints r)
theorem lay_ints:∀ ns:List Int,PyData.canLayAll0 (ns.map PyData.int)=true∧PyData.depthAll (ns.map PyData.int)=0
  | []=>⟨rfl,rfl⟩
  | n::r=>by
    obtain ⟨h1,h2⟩:=lay_ints r
    constructor
    · show (true && PyData.canLayAll0 (r.map PyData.int))=true
      rw [h1];rfl
    · show max 0 (PyData.depthAll (r.map PyData.int))=0
      rw [h2];rfl
theorem shaped_ints (ns:List Int):SeqAt.shaped (intsD ns)=true:=by
  obtain ⟨h1,h2⟩:=lay_ints ns
  unfold SeqAt.shaped
  rw [Bool.and_eq_true]
  refine ⟨h1,decide_eq_true ?_⟩
  show PyData.depthAll (ns.map PyData.int)+1≤64
  rw [h2];decide
theorem eqv_ints:∀ ns ms:List Int,PyData.eqvAll (ns.map PyData.int) (ms.map PyData.int)=decide (ns=ms)
  | [],[]=>rfl
  | [],_::_=>rfl
  | _::_,[]=>rfl
  | a::ns,b::ms=>by
    show ((a == b) && PyData.eqvAll (ns.map PyData.int) (ms.map PyData.int))=_
    rw [eqv_ints ns ms]
    by_cases h1:a=b
    · subst h1
      by_cases h2:ns=ms
      · subst h2;simp
      · simp [h2]
    · simp [h1]
theorem cut_news (k:Nat) (l:List Nat):cutV (nats (k::l)) (some 1) (some (1+(k:Int)))=nats (l.take k):=by
  unfold cutV
  have e1:HT.sIx (nats (k::l)).length 0 (some 1)=1:=by
    rw [show (some 1:Option Int)=some ((1:Nat):Int) from rfl,HT.sIx_nat]
    simp
  have e2:HT.sIx (nats (k::l)).length (nats (k::l)).length (some (1+(k:Int)))=min (1+k) (l.length+1):=by
    rw [show (1+(k:Int))=((1+k:Nat):Int) by omega,HT.sIx_nat]
    simp
  rw [e1,e2]
  show (nats l).take _=_
  rw [nats,nats,← List.map_take]
  congr 1
  by_cases h:k≤l.length
  · congr 1;omega
  · rw [List.take_of_length_le (by omega),List.take_of_length_le (by omega)]
theorem cut_wires (k:Nat) (l:List Nat):cutV (nats (k::l)) (some (1+(k:Int))) none=nats (l.drop k):=by
  unfold cutV
  have e1:HT.sIx (nats (k::l)).length 0 (some (1+(k:Int)))=min (1+k) (l.length+1):=by
    rw [show (1+(k:Int))=((1+k:Nat):Int) by omega,HT.sIx_nat]
    simp
  rw [HT.sIx_none,e1,List.take_of_length_le (by rw [List.length_drop];omega)]
  rw [nats,nats,← List.map_drop]
  congr 1
  by_cases h:k≤l.length
  · rw [show min (1+k) (l.length+1)=k+1 by omega];rfl
  · rw [show min (1+k) (l.length+1)=l.length+1 by omega,List.drop_of_length_le (by simp),List.drop_of_length_le (by omega)]
section
variable {P:Program} {w:World} {K:PySem.W.Frag} {mg:Str→Option Value} {base:Heap} {C CR:Addr}
def spNewSymbols:Sp:=fun vs H Q _=>∃ (a:Addr) (k:Nat) (l:List Nat),vs=[.ref a]∧H a=some (.lst (nats (k::l)))∧∀ p,H p=none→Q (.ref p) (upd H p (.lst (nats (l.take k))))
theorem sc_new_symbols:FnScope ["row"] ["row"] (defScope s_new_symbols):=⟨rfl,rfl,rfl,by decide +kernel,rfl,by decide +kernel,by decide +kernel⟩
theorem ok_new_symbols {f:Addr} {fd:FuncData} (F:Fun K "new_symbols" "new_symbols" s_new_symbols f fd) (T:Txt K mg C CR):FnOk P w K mg base CX0 1 f fd ["row"] spNewSymbols:=by
  refine F.ok sc_new_symbols (fun vs H Q E h=>?_) (fun cdv A0 outer s H vs Q E hr h=>?_)
  · obtain ⟨a,k,l,rfl,_⟩:=h
    rfl
  · obtain ⟨a,k,l,rfl,ha,q⟩:=h
    refine ⟨_,(pss_one (ps_ret (pe_slice sl_list (pv 0) (po_some pe_int) (po_some (pe_op op_add pe_int (pe_ix ix_list (pv 0) pe_int (fun _ _=>rfl))))))),?_⟩
    refine ⟨_,rfl,_,rfl,_,rfl,a,_,0,nV k,rfl,rfl,SqL.of ha,nats_at (l:=k::l) (i:=0) (by simp),_,_,rfl,rfl,_,rfl,a,_,rfl,SqL.of ha,fun p hp=>?_⟩
    have z:=q p hp
    rw [← cut_news] at z
    exact z
def spWirePlaces:Sp:=fun vs H Q _=>∃ (a:Addr) (k:Nat) (l:List Nat),vs=[.ref a]∧H a=some (.lst (nats (k::l)))∧∀ p,H p=none→Q (.ref p) (upd H p (.lst (nats (l.drop k))))
theorem sc_wire_places:FnScope ["row"] ["row"] (defScope s_wire_places):=⟨rfl,rfl,rfl,by decide +kernel,rfl,by decide +kernel,by decide +kernel⟩
theorem ok_wire_places {f:Addr} {fd:FuncData} (F:Fun K "wire_places" "wire_places" s_wire_places f fd) (T:Txt K mg C CR):FnOk P w K mg base CX0 1 f fd ["row"] spWirePlaces:=by
  refine F.ok sc_wire_places (fun vs H Q E h=>?_) (fun cdv A0 outer s H vs Q E hr h=>?_)
  · obtain ⟨a,k,l,rfl,_⟩:=h
    rfl
  · obtain ⟨a,k,l,rfl,ha,q⟩:=h
    refine ⟨_,(pss_one (ps_ret (pe_slice sl_list (pv 0) (po_some (pe_op op_add pe_int (pe_ix ix_list (pv 0) pe_int (fun _ _=>rfl)))) po_none))),?_⟩
    refine ⟨_,rfl,_,rfl,a,_,0,nV k,rfl,rfl,SqL.of ha,nats_at (l:=k::l) (i:=0) (by simp),_,_,rfl,rfl,_,rfl,a,_,rfl,SqL.of ha,fun p hp=>?_⟩
    have z:=q p hp
    rw [← cut_wires] at z
    exact z
def newPl (r:Nets.Rec) (news:List Nat):List Nat:=(news.zipIdx).flatMap fun (x:Nat × Nat)=>(List.range (r.of x.1+1)).map fun (j:Nat)=>4*x.2+j
theorem newPl_snoc (r:Nets.Rec) (l:List Nat) (x:Nat):newPl r (l++[x])=newPl r l++(List.range (r.of x+1)).map fun (j:Nat)=>4*l.length+j:=by
  unfold newPl
  rw [List.zipIdx_append,List.flatMap_append]
  simp
def needed (r:Nets.Rec) (s t:Nat) (news:List Nat):List Nat:=newPl r news++((List.range (r.of s)).map (fun (j:Nat)=>65+j)++(List.range (r.of t)).map fun (j:Nat)=>81+j)
theorem of_le {r:Nets.Rec} (ok:RecOk r) (s:Nat):r.of s≤3:=by
  unfold Nets.Rec.of
  rw [List.getD_eq_getElem?_getD]
  cases h:r.arity[s]? with
  | none=>exact Nat.zero_le _
  | some n=>exact ok.ar3 n (List.mem_of_getElem? h)
theorem newPl_len {r:Nets.Rec} (ok:RecOk r) (news:List Nat):(newPl r news).length≤4*news.length:=by
  unfold newPl
  rw [List.length_flatMap]
  have h:∀ (l:List (Nat × Nat)),(l.map fun x=>((List.range (r.of x.1+1)).map fun (j:Nat)=>4*x.2+j).length).sum≤4*l.length:=by
    intro l
    induction l with
    | nil=>exact Nat.zero_le _
    | cons x l ih =>
      have h2:=of_le ok x.1
      rw [List.map_cons,List.sum_cons,List.length_cons]
      rw [List.length_map,List.length_range]
      omega
  have q:=h news.zipIdx
  rw [List.length_zipIdx] at q
  exact q
theorem snocV (l:List Nat) (n:Nat) {z:Int} (h:z=(n:Int)):nats l++[V.int z]=nats (l++[n]):=by
  rw [h,nats,nats,List.map_append];rfl
theorem range_snoc {f:Nat→Nat} (n:Nat):(List.range (n+1)).map f=(List.range n).map f++[f n]:=by
  rw [List.range_succ,List.map_append];rfl
def spNeeded (C CR:Addr):Sp:=fun vs H Q _=>∃ (A:RecAd) (r:Nets.Rec) (s t:Nat) (sy:Addr) (news:List Nat),vs=[.ref A.p,nV s,nV t,.ref sy]∧RecAt C CR H A r∧RecOk r∧s<r.arity.length∧t<r.arity.length∧H sy=some (.lst (nats news))∧news.length≤6∧(∀ x∈news,x<r.arity.length) ∧
  ∀ H' l,H l=none→Same H H'→H' l=some (.lst (nats (needed r s t news)))→Q (.ref l) H'
theorem sc_needed_places:FnScope ["record", "s", "t", "symbols", "places", "i", "symbol", "j"] ["record", "s", "t", "symbols"] (defScope s_needed_places):=⟨rfl,rfl,rfl,by decide +kernel,rfl,by decide +kernel,by decide +kernel⟩
theorem ok_needed_places {f:Addr} {fd:FuncData} (F:Fun K "needed_places" "needed_places" s_needed_places f fd) (T:Txt K mg C CR):FnOk P w K mg base CX0 1 f fd ["record", "s", "t", "symbols"] (spNeeded C CR):=by
  refine F.ok sc_needed_places (fun vs H Q E h=>?_) (fun cdv A0 outer s0 H vs Q E hr h=>?_)
  · obtain ⟨A,r,s,t,sy,news,rfl,_⟩:=h
    rfl
  · obtain ⟨A,r,s,t,sy,news,rfl,h1,ok,hs,ht,hsy,h6,hall,k⟩:=h
    have nd:=sc_needed_places.nd
    have os:=of_le ok s
    have ot:=of_le ok t
    have nlen:=newPl_len ok news
    refine ⟨_,(pss_cons (ps_set (i:=4) nd rfl (Or.inl rfl) (pe_lst pa_nil)) (pss_cons (ps_for PassesOwn.never rfl (pi_enum rfl T.b_enumerate (pa_cons (pv 3) pa_nil)) (pg_tup rfl (pgs_cons (pg_name (i:=5) nd rfl (Or.inl rfl)) (pgs_cons (pg_name (i:=6) nd rfl (Or.inl rfl)) pgs_nil))) (pss_one (ps_for PassesOwn.never rfl (pi_range1 rfl T.b_range (pa_cons (pe_op op_add pe_int (pe_ix ix_list (pe_fld (pv 0) rfl) (pv 6) (fun _ _=>rfl))) pa_nil)) (pg_name (i:=7) nd rfl (Or.inl rfl)) (pss_one (ps_expr (pe_bm PySem.F.plainAttrs_list PySem.F.slot_list_append PySem.F.type_list_append mt_append (pv 4) (pa_cons (pe_op op_add (pe_op op_mul (pe_glV rfl T.c_PORTS_APART) (pv 5)) (pv 7)) pa_nil))))))) (pss_cons (ps_for PassesOwn.never rfl (pi_range2 rfl T.b_range (pa_cons pe_int (pa_cons (pe_op op_add pe_int (pe_ix ix_list (pe_fld (pv 0) rfl) (pv 1) (fun _ _=>rfl))) pa_nil))) (pg_name (i:=7) nd rfl (Or.inl rfl)) (pss_one (ps_expr (pe_bm PySem.F.plainAttrs_list PySem.F.slot_list_append PySem.F.type_list_append mt_append (pv 4) (pa_cons (pe_op op_add (pe_glV rfl T.c_FIRST_OLD) (pv 7)) pa_nil))))) (pss_cons (ps_for PassesOwn.never rfl (pi_range2 rfl T.b_range (pa_cons pe_int (pa_cons (pe_op op_add pe_int (pe_ix ix_list (pe_fld (pv 0) rfl) (pv 2) (fun _ _=>rfl))) pa_nil))) (pg_name (i:=7) nd rfl (Or.inl rfl)) (pss_one (ps_expr (pe_bm PySem.F.plainAttrs_list PySem.F.slot_list_append PySem.F.type_list_append mt_append (pv 4) (pa_cons (pe_op op_add (pe_glV rfl T.c_SECOND_OLD) (pv 7)) pa_nil))))) (pss_one (ps_ret (pv 4))))))),?_⟩
    refine ⟨Nat.zero_le _,fun l hl=>?_⟩
    have s1:Same H (upd H l (.lst [])):=Same.upd (Same.refl _) hl
    have st:∀ {H' : Hp} {u:HO},Same H H'→Same H (upd H' l u):=fun {H' u} s b o e=>by
      rw [upd_ne (ne_of_none e hl)]
      exact s b o e
    refine ⟨_,rfl,sy,nats news,rfl,SqL.of (s1 _ _ hsy),for_enum (K:=K) (a:=sy) (xs:=nats news) (fun i σ H'=>∃ a b c,σ=[some (.ref A.p),some (nV s),some (nV t),some (.ref sy),some (.ref l),a,b,c]∧Same H H'∧H' l=some (.lst (nats (newPl r (news.take i)))))
      ⟨none,none,none,rfl,s1,upd_same⟩ (fun i σ H' _ ⟨_,_,_,_,s2,_⟩=>SqL.of (s2 _ _ hsy)) ?_ ?_⟩
    · rintro i x σ H' Tp hi hT ⟨a,b,c,rfl,s2,hl'⟩
      have hi2:news[i]?.map nV=some x:=by rw [← List.getElem?_map];exact hi
      obtain ⟨sym,hsym,rfl⟩:=Option.map_eq_some_iff.mp hi2
      have hlt:=hall sym (List.mem_of_getElem? hsym)
      have hil:i<news.length:=(List.getElem?_eq_some_iff.mp hsym).1
      have osy:=of_le ok sym
      have s3:Same H (upd H' Tp (.tup [.int (i:Nat),nV sym])):=Same.upd s2 hT
      have hl3:(upd H' Tp (.tup [.int (i:Nat),nV sym])) l=some (.lst (nats (newPl r (news.take i)))):=by
        rw [upd_ne (ne_of_none hl' hT)];exact hl'
      have h3:=h1.same s3
      have tl:(news.take i).length=i:=by rw [List.length_take];omega
      have nl:=newPl_len ok (news.take i)
      rw [tl] at nl
      refine ⟨Tp,_,rfl,SqT.of upd_same,rfl,_,_,rfl,_,_,rfl,rfl,?_⟩
      refine ⟨_,rfl,A.p,C,A.dx,_,_,rfl,h3.obj,T.cl,T.nMore,recF_more A,_,rfl,A.mp,_,(sym:Int),nV (r.of sym),rfl,rfl,SqL.of h3.mp,nats_at hlt,_,_,rfl,rfl,1+(r.of sym:Int),rfl,by omega,by omega,
        for_range (n:=(1+(r.of sym:Int)).toNat) (fun j σ H'=>∃ c,σ=[some (.ref A.p),some (nV s),some (nV t),some (.ref sy),some (.ref l),some (.int (i:Nat)),some (nV sym),c]∧Same H H'∧H' l=some (.lst (nats (newPl r (news.take i)++(List.range j).map fun q=>4*i+q))))
        ⟨c,rfl,s3,by rw [hl3];simp⟩ ?_ ?_⟩
      · rintro j σ H4 hj ⟨c,rfl,s4,hl4⟩
        refine ⟨_,rfl,.inl ⟨rfl,_,SqL.of hl4⟩,_,rfl,_,_,rfl,rfl,.inl ⟨by decide,by decide⟩,_,rfl,_,_,rfl,rfl,l,_,_,rfl,rfl,hl4,?_,?_⟩
        · rw [List.length_map,List.length_append,List.length_map,List.length_range]
          exact small1000 (by omega)
        · refine ⟨_,rfl,st s4,?_⟩
          rw [upd_same,snocV _ (4*i+j) (by omega),List.append_assoc,range_snoc]
      · rintro σ H4 ⟨c,rfl,s4,hl4⟩
        refine ⟨_,_,_,rfl,s4,?_⟩
        rw [hl4,take_snoc hsym,newPl_snoc,tl,show (1+(r.of sym:Int)).toNat=r.of sym+1 by omega]
    · rintro σ H2 ⟨a,b,c,rfl,s2,hl2⟩
      rw [List.length_map,List.take_length] at hl2
      have h2:=h1.same s2
      refine ⟨_,rfl,A.p,C,A.dx,_,_,rfl,h2.obj,T.cl,T.nMore,recF_more A,_,rfl,A.mp,_,(s:Int),nV (r.of s),rfl,rfl,SqL.of h2.mp,nats_at hs,_,_,rfl,rfl,1,1+(r.of s:Int),rfl,⟨by decide,by decide,by omega,by omega⟩,
        for_range (lo:=1) (n:=(1+(r.of s:Int) - 1).toNat) (fun j σ H'=>∃ a b c,σ=[some (.ref A.p),some (nV s),some (nV t),some (.ref sy),some (.ref l),a,b,c]∧Same H H'∧H' l=some (.lst (nats (newPl r news++(List.range j).map fun q=>65+q))))
        ⟨a,b,c,rfl,s2,by rw [hl2];simp⟩ ?_ ?_⟩
      · rintro j σ H4 hj ⟨a,b,c,rfl,s4,hl4⟩
        refine ⟨_,rfl,.inl ⟨rfl,_,SqL.of hl4⟩,_,rfl,_,_,rfl,rfl,l,_,_,rfl,rfl,hl4,?_,?_⟩
        · rw [List.length_map,List.length_append,List.length_map,List.length_range]
          exact small1000 (by omega)
        · refine ⟨_,_,_,rfl,st s4,?_⟩
          rw [upd_same,snocV _ (65+j) (by omega),List.append_assoc,range_snoc]
      · rintro σ H3 ⟨a,b,c,rfl,s3,hl3⟩
        rw [show (1+(r.of s:Int) - 1).toNat=r.of s by omega] at hl3
        have h3:=h1.same s3
        refine ⟨_,rfl,A.p,C,A.dx,_,_,rfl,h3.obj,T.cl,T.nMore,recF_more A,_,rfl,A.mp,_,(t:Int),nV (r.of t),rfl,rfl,SqL.of h3.mp,nats_at ht,_,_,rfl,rfl,1,1+(r.of t:Int),rfl,⟨by decide,by decide,by omega,by omega⟩,
          for_range (lo:=1) (n:=(1+(r.of t:Int) - 1).toNat) (fun j σ H'=>∃ a b c,σ=[some (.ref A.p),some (nV s),some (nV t),some (.ref sy),some (.ref l),a,b,c]∧Same H H'∧H' l=some (.lst (nats (newPl r news++((List.range (r.of s)).map (fun q=>65+q)++(List.range j).map fun q=>81+q)))))
          ⟨a,b,c,rfl,s3,by rw [hl3];simp⟩ ?_ ?_⟩
        · rintro j σ H4 hj ⟨a,b,c,rfl,s4,hl4⟩
          refine ⟨_,rfl,.inl ⟨rfl,_,SqL.of hl4⟩,_,rfl,_,_,rfl,rfl,l,_,_,rfl,rfl,hl4,?_,?_⟩
          · rw [List.length_map,List.length_append,List.length_append,List.length_map,List.length_range,List.length_map,List.length_range]
            exact small1000 (by omega)
          · refine ⟨_,_,_,rfl,st s4,?_⟩
            rw [upd_same,snocV _ (81+j) (by omega),List.append_assoc,List.append_assoc,range_snoc]
        · rintro σ H4 ⟨a,b,c,rfl,s4,hl4⟩
          rw [show (1+(r.of t:Int) - 1).toNat=r.of t by omega] at hl4
          exact ⟨_,rfl,k H4 l hl s4 hl4⟩
end
theorem twos_ends:∀ (l:List Nat) (w:List (Nat × Nat)),Nets.twos l=some w→w.flatMap (fun u=>[u.1,u.2])=l
  | [],w,h=>by cases h;rfl
  | [_],w,h=>by cases h
  | x::y::l,w,h=>by
    unfold Nets.twos at h
    cases e:Nets.twos l with
    | none=>rw [e] at h;cases h
    | some v =>
      rw [e] at h
      cases h
      show x::y::v.flatMap (fun u=>[u.1,u.2])=_
      rw [twos_ends l v e]
theorem twos_some:∀ (l:List Nat),l.length%2=0→∃ w,Nets.twos l=some w∧l.length=2*w.length
  | [],_=>⟨[],rfl,rfl⟩
  | [_],h=>by cases h
  | x::y::l,h=>by
    obtain ⟨w,hw,hl⟩:=twos_some l (by simp only [List.length_cons] at h;omega)
    refine ⟨(x,y)::w,?_,by simp only [List.length_cons];omega⟩
    unfold Nets.twos
    rw [hw]
theorem twos_none:∀ (l:List Nat),l.length%2≠0→Nets.twos l=none
  | [],h=>absurd rfl h
  | [_],_=>rfl
  | x::y::l,h=>by
    unfold Nets.twos
    rw [twos_none l (by simp only [List.length_cons] at h;omega)]
def rowOk (r:Nets.Rec) (s t:Nat) (row:List Nat):Bool:=match Nets.bodyOf s t row with
  | none=>false
  | some R=>r.wellMade R
theorem body_bad {s t k:Nat} {l:List Nat} (h:6<k∨l.length<k):Nets.bodyOf s t (k::l)=none:=by
  show (if Nets.NEWS<k∨l.length<k then none else _)=none
  rw [if_pos (show Nets.NEWS<k∨l.length<k from h)]
theorem body_good {s t k:Nat} {l:List Nat} (h:k≤6) (hl:k≤l.length):Nets.bodyOf s t (k::l)=(Nets.twos (l.drop k)).map fun w=>⟨s,t,l.take k,w⟩:=by
  show (if Nets.NEWS<k∨l.length<k then none else match Nets.twos (l.drop k) with
    | none=>none
    | some w=>some (Nets.Rule.mk s t (l.take k) w))=_
  rw [if_neg (by unfold Nets.NEWS;omega)]
  cases Nets.twos (l.drop k) <;> rfl
theorem row_bad {r:Nets.Rec} {s t k:Nat} {l:List Nat} (h:6<k∨l.length<k):rowOk r s t (k::l)=false:=by
  unfold rowOk
  rw [body_bad h]
theorem perm_of_sub:∀ (a b:List Nat),a.Nodup→(∀ x∈a,x∈b)→b.length=a.length→a.Perm b
  | [],b,_,_,h=>by
    have:b=[]:=List.length_eq_zero_iff.mp h
    subst this
    exact .nil
  | x::a,b,nd,hs,hl=>by
    obtain ⟨h1,h2⟩:=List.nodup_cons.mp nd
    have hx:x∈b:=hs x List.mem_cons_self
    have hp:b.Perm (x::b.erase x):=List.perm_cons_erase hx
    have ih:=perm_of_sub a (b.erase x) h2 (fun y hy=>by
      have hyb:=hs y (List.mem_cons_of_mem _ hy)
      have hne:y≠x:=fun z=>h1 (z ▸ hy)
      rcases List.mem_cons.mp (hp.mem_iff.mp hyb) with z | z
      · exact absurd z hne
      · exact z) (by
      have q:=hp.length_eq
      simp only [List.length_cons] at q hl
      omega)
    exact (List.Perm.cons x ih).trans hp.symm
theorem newPl_sorted {r:Nets.Rec} (ok:RecOk r) (news:List Nat):∀ i,i≤news.length→(newPl r (news.take i)).Pairwise (· < ·)∧∀ x∈newPl r (news.take i),x<4*i
  | 0,_=>by
    rw [List.take_zero]
    exact ⟨List.Pairwise.nil,fun x hx=>absurd hx (by simp [newPl])⟩
  | i+1,h=>by
    obtain ⟨h1,h2⟩:=newPl_sorted ok news i (by omega)
    have e:=List.getElem?_eq_getElem (l:=news) (i:=i) (by omega)
    have tl:(news.take i).length=i:=by rw [List.length_take];omega
    have os:=of_le ok news[i]
    rw [take_snoc e,newPl_snoc,tl]
    refine ⟨List.pairwise_append.mpr ⟨h1,?_,fun a ha b hb=>?_⟩,fun x hx=>?_⟩
    · refine List.Pairwise.map _ (fun a b z=>?_) List.pairwise_lt_range
      omega
    · obtain ⟨j,_,rfl⟩:=List.mem_map.mp hb
      have:=h2 a ha
      omega
    · rcases List.mem_append.mp hx with z | z
      · have:=h2 x z
        omega
      · obtain ⟨j,hj,rfl⟩:=List.mem_map.mp z
        have:=List.mem_range.mp hj
        omega
theorem needed_sorted {r:Nets.Rec} (ok:RecOk r) (s t:Nat) {news:List Nat} (h6:news.length≤6):(needed r s t news).Pairwise (· < ·):=by
  obtain ⟨h1,h2⟩:=newPl_sorted ok news news.length (Nat.le_refl _)
  rw [List.take_length] at h1 h2
  have os:=of_le ok s
  unfold needed
  refine List.pairwise_append.mpr ⟨h1,List.pairwise_append.mpr ⟨?_,?_,fun a ha b hb=>?_⟩,fun a ha b hb=>?_⟩
  · refine List.Pairwise.map _ (fun a b z=>?_) List.pairwise_lt_range
    omega
  · refine List.Pairwise.map _ (fun a b z=>?_) List.pairwise_lt_range
    omega
  · obtain ⟨i,hi,rfl⟩:=List.mem_map.mp ha
    obtain ⟨j,hj,rfl⟩:=List.mem_map.mp hb
    have:=List.mem_range.mp hi
    omega
  · have:=h2 a ha
    rcases List.mem_append.mp hb with z | z
    · obtain ⟨j,hj,rfl⟩:=List.mem_map.mp z
      omega
    · obtain ⟨j,hj,rfl⟩:=List.mem_map.mp z
      omega
theorem places_eq {r:Nets.Rec} (ok:RecOk r) (s t:Nat) {news pl:List Nat} (h6:news.length≤6) {ns' : List Int} (hp:ns'.Perm (natsI pl)) (hs:ns'.Pairwise (·≤·)) :
    decide (ns'=natsI (needed r s t news))=(pl.length == (needed r s t news).length && (needed r s t news).all fun x=>pl.contains x):=by
  have srt:=needed_sorted ok s t h6
  have nd:(needed r s t news).Nodup:=srt.imp fun h=>Nat.ne_of_lt h
  by_cases c:ns'=natsI (needed r s t news)
  · rw [decide_eq_true c]
    subst c
    have hp2:(needed r s t news).Perm pl:=by
      have q:=hp.map Int.toNat
      unfold natsI at q
      rw [List.map_map,List.map_map] at q
      have e:(Int.toNat ∘ fun n:Nat=>(n:Int))=id:=by funext n;simp
      rw [e,List.map_id,List.map_id] at q
      exact q
    symm
    rw [Bool.and_eq_true]
    refine ⟨beq_iff_eq.mpr hp2.length_eq.symm,List.all_eq_true.mpr fun x hx=>List.contains_iff_mem.mpr (hp2.mem_iff.mp hx)⟩
  · rw [decide_eq_false c]
    symm
    rw [Bool.eq_false_iff]
    intro h
    rw [Bool.and_eq_true] at h
    have hl:=eq_of_beq h.1
    have hall:=List.all_eq_true.mp h.2
    have hp2:(needed r s t news).Perm pl:=perm_of_sub _ _ nd (fun x hx=>List.contains_iff_mem.mp (hall x hx)) hl
    have hp3:(natsI pl).Perm (natsI (needed r s t news)):=(hp2.map _).symm
    exact c (perm_sorted_eq (hp.trans hp3) hs (natsI_sorted srt))
theorem rowOk_eq {r:Nets.Rec} (s t k:Nat) (l:List Nat) (hk:k≤6) (hl:k≤l.length):rowOk r s t (k::l)=if (l.drop k).length%2≠0 then false else
    ((l.take k).all (fun s=>decide (s<r.arity.length)) && ((l.drop k).length == (needed r s t (l.take k)).length && (needed r s t (l.take k)).all fun x=>(l.drop k).contains x)):=by
  unfold rowOk
  rw [body_good hk hl]
  by_cases c:(l.drop k).length%2≠0
  · rw [if_pos c,twos_none _ c]
    rfl
  · rw [if_neg c]
    obtain ⟨w,hw,_⟩:=twos_some (l.drop k) (by omega)
    have he:=twos_ends _ _ hw
    rw [hw]
    show Nets.Rec.wellMade r ⟨s,t,l.take k,w⟩=_
    unfold Nets.Rec.wellMade
    have e1:Nets.ends ⟨s,t,l.take k,w⟩=l.drop k:=he
    have e2:r.places ⟨s,t,l.take k,w⟩=needed r s t (l.take k):=rfl
    rw [e1,e2,decide_eq_true (show (l.take k).length≤Nets.NEWS by rw [List.length_take];unfold Nets.NEWS;omega),Bool.true_and]
section
variable {P:Program} {w:World} {K:PySem.W.Frag} {mg:Str→Option Value} {base:Heap} {C CR:Addr}
def spIsRuleRow (C CR:Addr):Sp:=fun vs H Q _=>∃ (A:RecAd) (r:Nets.Rec) (s t:Nat) (a:Addr) (row:List Nat),vs=[.ref A.p,nV s,nV t,.ref a]∧RecAt C CR H A r∧RecOk r∧s<r.arity.length∧t<r.arity.length∧H a=some (.lst (nats row)) ∧
  ∀ H',Same H H'→Q (.bl (rowOk r s t row)) H'
theorem sc_is_rule_row:FnScope ["record", "s", "t", "row", "symbols", "symbol", "places"] ["record", "s", "t", "row"] (defScope s_is_rule_row):=⟨rfl,rfl,rfl,by decide +kernel,rfl,by decide +kernel,by decide +kernel⟩
theorem ok_is_rule_row {f:Addr} {fd:FuncData} (F:Fun K "is_rule_row" "is_rule_row" s_is_rule_row f fd) (T:Txt K mg C CR) (D_new_symbols:Df P w K mg base "new_symbols" ["row"] 1 spNewSymbols) (D_wire_places:Df P w K mg base "wire_places" ["row"] 1 spWirePlaces)
    (D_is_symbol:Df P w K mg base "is_symbol" ["record", "s"] 1 (spIsSymbol C CR)) (D_needed_places:Df P w K mg base "needed_places" ["record", "s", "t", "symbols"] 1 (spNeeded C CR)) :
    FnOk P w K mg base CX0 2 f fd ["record", "s", "t", "row"] (spIsRuleRow C CR):=by
  refine F.ok sc_is_rule_row (fun vs H Q E h=>?_) (fun cdv A0 outer s0 H vs Q E hr h=>?_)
  · obtain ⟨A,r,s,t,a,row,rfl,_⟩:=h
    rfl
  · obtain ⟨A,r,s,t,a,row,rfl,h1,ok,hs,ht,ha,k⟩:=h
    have nd:=sc_is_rule_row.nd
    have hu:=hu_of hr
    have hu64:=hr.units
    refine ⟨_,(pss_cons (ps_if (PW.pt (pw_or (pt_cmpR op_eq (pe_callB call_len_seq (by rfl) T.b_len PySem.boot_len (pa_cons (pv 3) pa_nil)) pe_int (nomark _)) (pw_or (pt_cmpR op_gt (pe_ix ix_list (pv 3) pe_int (fun _ _=>rfl)) (pe_glV rfl T.c_NEW_AGENT_LIMIT) (nomark _)) (pw_or1 (pt_cmpR op_lt (pe_callB call_len_seq (by rfl) T.b_len PySem.boot_len (pa_cons (pv 3) pa_nil)) (pe_op op_add pe_int (pe_ix ix_list (pv 3) pe_int (fun _ _=>rfl))) (nomark _)))))) (pss_one (ps_ret pe_bl)) pss_nil) (pss_cons (ps_set (i:=4) nd rfl (Or.inl rfl) (pe_callD D_new_symbols (hr.mono (by decide)) rfl (pa_cons (pv 3) pa_nil))) (pss_cons (ps_for PassesOwn.never rfl (pi_list (pv 4)) (pg_name (i:=5) nd rfl (Or.inl rfl)) (pss_one (ps_if (pt_not (pt_val (pe_callD D_is_symbol (hr.mono (by decide)) rfl (pa_cons (pv 0) (pa_cons (pv 5) pa_nil))))) (pss_one (ps_ret pe_bl)) pss_nil))) (pss_cons (ps_set (i:=6) nd rfl (Or.inl rfl) (pe_callD D_wire_places (hr.mono (by decide)) rfl (pa_cons (pv 3) pa_nil))) (pss_cons (ps_if (pt_cmpR op_ne (pe_op op_mod (pe_callB call_len_seq (by rfl) T.b_len PySem.boot_len (pa_cons (pv 6) pa_nil)) pe_int) pe_int (nomark _)) (pss_one (ps_ret pe_bl)) pss_nil) (pss_one (ps_ret (pe_cmpR (op_eqD hu64) (pe_callB call_sortedL (by rfl) T.b_sorted (by rfl) (pa_cons (pv 6) pa_nil)) (pe_callD D_needed_places (hr.mono (by decide)) rfl (pa_cons (pv 0) (pa_cons (pv 1) (pa_cons (pv 2) (pa_cons (pv 4) pa_nil))))) (nomark _))))))))),?_⟩
    refine ⟨_,rfl,a,_,rfl,.inl (SqL.of ha),rfl,_,rfl,ite2 (fun c=>?_) (fun c=>?_)⟩
    · have c:V.int ((nats row).length:Int)=V.int 0:=of_decide_eq_true c
      have e:row=[]:=by
        injection c with c
        rw [List.length_map] at c
        exact List.length_eq_zero_iff.mp (by omega)
      subst e
      exact iteT (k H (Same.refl _))
    · cases row with
      | nil=>exact absurd (decide_eq_true rfl) c
      | cons kk l =>
        have at0:atI (nats (kk::l)) 0=some (nV kk):=nats_at (l:=kk::l) (i:=0) (by simp)
        have el:((nats (kk::l)).length:Int)=(l.length:Int)+1:=by rw [List.length_map];simp
        refine ⟨_,rfl,a,_,0,nV kk,rfl,rfl,SqL.of ha,at0,_,_,rfl,rfl,_,rfl,ite2 (fun c1=>?_) (fun c1=>?_)⟩
        · have c1:(6:Int)<kk:=of_decide_eq_true c1
          have q:=k H (Same.refl _)
          have e:rowOk r s t (kk::l)=false:=row_bad (.inl (by omega))
          rw [e] at q
          exact iteT q
        · have c1:¬ (6:Int)<kk:=fun z=>c1 (decide_eq_true z)
          refine ⟨_,rfl,a,_,rfl,.inl (SqL.of ha),_,rfl,a,_,0,nV kk,rfl,rfl,SqL.of ha,at0,_,_,rfl,rfl,_,_,rfl,rfl,_,rfl,ite2 (fun c2=>?_) (fun c2=>?_)⟩
          · have c2:((nats (kk::l)).length:Int)<1+kk:=of_decide_eq_true c2
            rw [el] at c2
            have q:=k H (Same.refl _)
            have e:rowOk r s t (kk::l)=false:=row_bad (.inr (by omega))
            rw [e] at q
            exact q
          · have c2:¬ ((nats (kk::l)).length:Int)<1+kk:=fun z=>c2 (decide_eq_true z)
            rw [el] at c2
            have hkl:kk≤l.length:=by omega
            have hk6:kk≤6:=by omega
            have re:=rowOk_eq (r:=r) s t kk l hk6 hkl
            have tl:(l.take kk).length=kk:=by rw [List.length_take];omega
            refine ⟨_,rfl,a,kk,l,rfl,ha,fun sy hsy=>?_⟩
            have s1:Same H (upd H sy (.lst (nats (l.take kk)))):=Same.upd (Same.refl _) hsy
            have h2:=h1.same s1
            refine ⟨_,rfl,sy,rfl,⟨_,SqL.of upd_same⟩,for_list (K:=K) (a:=sy) (xs:=nats (l.take kk)) (fun i σ H'=>H'=upd H sy (.lst (nats (l.take kk)))∧(∃ b,σ=[some (.ref A.p),some (nV s),some (nV t),some (.ref a),some (.ref sy),b,none])∧∀ x∈(l.take kk).take i,x<r.arity.length)
              ⟨rfl,⟨none,rfl⟩,fun x hx=>absurd hx (by simp)⟩ (fun i σ H' _ ⟨e,_,_⟩=>by rw [e];exact SqL.of upd_same) ?_ ?_⟩
            · rintro i x σ H' hi ⟨rfl,⟨b,rfl⟩,hall⟩
              have hi2:(l.take kk)[i]?.map nV=some x:=by rw [← List.getElem?_map];exact hi
              obtain ⟨sym,hsym,rfl⟩:=Option.map_eq_some_iff.mp hi2
              refine ⟨_,rfl,_,rfl,A,r,(sym:Int),rfl,h2,_,rfl,ite2 (fun c3=>?_) (fun c3=>?_)⟩
              · have c3:¬ ((sym:Int)<r.arity.length):=by simpa using c3
                have q:=k _ s1
                have e:rowOk r s t (kk::l)=false:=by
                  rw [re]
                  split
                  · rfl
                  · have z:(l.take kk).all (fun s=>decide (s<r.arity.length))=false:=by
                      rw [List.all_eq_false]
                      exact ⟨sym,List.mem_of_getElem? hsym,by simp;omega⟩
                    rw [z];rfl
                rw [e] at q
                exact q
              · have c3:(sym:Int)<r.arity.length:=by simpa using c3
                refine ⟨rfl,⟨_,rfl⟩,fun x hx=>?_⟩
                rw [take_snoc hsym] at hx
                rcases List.mem_append.mp hx with z | z
                · exact hall x z
                · have:x=sym:=by simpa using z
                  omega
            · rintro σ H' ⟨rfl,⟨b,rfl⟩,hall⟩
              rw [List.length_map,List.take_length] at hall
              refine ⟨_,rfl,a,kk,l,rfl,s1 _ _ ha,fun wp hwp=>?_⟩
              have s2:Same (upd H sy (.lst (nats (l.take kk)))) (upd (upd H sy (.lst (nats (l.take kk)))) wp (.lst (nats (l.drop kk)))):=Same.upd (Same.refl _) hwp
              have hz:(l.take kk).all (fun s=>decide (s<r.arity.length))=true:=List.all_eq_true.mpr fun x hx=>decide_eq_true (hall x hx)
              rw [hz,Bool.true_and] at re
              refine ⟨_,rfl,wp,_,rfl,.inl (SqL.of upd_same),_,_,rfl,rfl,(by show (0:Int)<2;decide),rfl,_,rfl,ite2 (fun c4=>?_) (fun c4=>?_)⟩
              · have c4:¬ (V.int (((nats (l.drop kk)).length:Int)%2)=V.int 0):=by simpa using c4
                rw [if_pos (show (l.drop kk).length%2≠0 from fun z=>c4 (vint (by rw [List.length_map];omega)))] at re
                have q:=k _ (s1.trans s2)
                rw [re] at q
                exact q
              · have c4:V.int (((nats (l.drop kk)).length:Int)%2)=V.int 0:=by simpa using c4
                have c4:(l.drop kk).length%2=0:=by injection c4 with c4;rw [List.length_map] at c4;omega
                rw [if_neg (by omega)] at re
                refine ⟨_,rfl,wp,natsI (l.drop kk),rfl,(by rw [natsI_V];exact SqL.of upd_same),fun ns' p hperm hsrt hp=>?_⟩
                have s3:=Same.upd (o:=.lst (ns'.map V.int)) (s1.trans s2) hp
                have hsy3:(upd (upd (upd H sy (.lst (nats (l.take kk)))) wp (.lst (nats (l.drop kk)))) p (.lst (ns'.map V.int))) sy=some (.lst (nats (l.take kk))):=by
                  have z:=s2 _ _ (upd_same (H:=H) (a:=sy) (o:=.lst (nats (l.take kk))))
                  rw [upd_ne (ne_of_none z hp)]
                  exact z
                refine ⟨_,rfl,_,rfl,_,rfl,_,rfl,A,r,s,t,sy,l.take kk,rfl,h1.same s3,ok,hs,ht,hsy3,by omega,hall,fun H' nl hnl s4 hnl'=>?_⟩
                have hp4:H' p=some (.lst (ns'.map V.int)):=s4 _ _ upd_same
                refine ⟨intsD ns',intsD (natsI (needed r s t (l.take kk))),.lst (SqL.of hp4) (dp_ints _),.lst (SqL.of hnl') (by rw [← natsI_V];exact dp_ints _),shaped_ints _,shaped_ints _,?_⟩
                have q:=k _ (s3.trans s4)
                rw [re,← places_eq ok s t (by omega) hperm hsrt,← eqv_ints] at q
                exact q
end
theorem for_keys {d:Addr} {o:Obj} {kvs:List (Key × V)} {g:TG} {tb:TS} {D:Ends} {σ:L2.St} {H:Hp} (Pv:Nat→L2.St→Hp→Prop) (h0:Pv 0 σ H) (hl:∀ i σ H,i≤kvs.length→Pv i σ H→H d=some (.frz o (.dK kvs)))
    (hs:∀ i k v σ H,kvs[i]?=some (k,v)→Pv i σ H→g (kV k) σ H fun σ2 H2=>tb { D with nx:=Pv (i+1),ct:=Pv (i+1),bk:=D.nx } σ2 H2) (hd:∀ σ H,Pv kvs.length σ H→D.nx σ H) :
    ∃ W:Nat→Nat→L2.St→Hp→Prop,(∃ m,W 0 m σ H)∧∀ i m σ H,W i m σ H →
      ((Itk d o kvs).stop i H∧D.nx σ H)∨((Itk d o kvs).go i H∧∃ N:L2.St→Hp→Prop,(∀ σ' H',N σ' H'→∃ m',m'<m∧W (i+1) m' σ' H')∧∀ x H',(Itk d o kvs).yld i H x H'→g x σ H' fun σ2 H2=>tb { D with nx:=N,ct:=N,bk:=D.nx } σ2 H2):=by
  refine ⟨fun i m σ H=>m=kvs.length - i∧i≤kvs.length∧Pv i σ H,⟨kvs.length,by simp,Nat.zero_le _,h0⟩,?_⟩
  rintro i m σ H ⟨rfl,hi,p⟩
  have q:=hl i σ H hi p
  by_cases hlt:i<kvs.length
  · refine .inr ⟨⟨q,hlt⟩,Pv (i+1),fun σ' H' p'=>⟨kvs.length - (i+1),by omega,rfl,hlt,p'⟩,fun x H' y=>?_⟩
    obtain ⟨rfl,k,v,e,rfl⟩:=y
    exact hs i k v σ _ e p
  · have e:i=kvs.length:=by omega
    subst e
    exact .inl ⟨⟨q,Nat.le_refl _⟩,hd σ H p⟩
def otherW (ws:List (Nat × Nat)) (x:Nat):Option Nat:=ws.findSome? fun (u:Nat × Nat)=>if u.1=x then some u.2 else if u.2=x then some u.1 else none
theorem other_eq (R:Nets.Rule):R.other=otherW R.wires:=rfl
def flat (ws:List (Nat × Nat)):List Nat:=ws.flatMap fun u=>[u.1,u.2]
theorem flat_cons (u:Nat × Nat) (ws:List (Nat × Nat)):flat (u::ws)=u.1::u.2::flat ws:=rfl
theorem otherW_none:∀ {ws:List (Nat × Nat)} {x:Nat},x∉flat ws→otherW ws x=none
  | [],_,_=>rfl
  | u::ws,x,h=>by
    rw [flat_cons] at h
    have h1:¬ u.1=x:=fun z=>h (by rw [z];exact List.mem_cons_self)
    have h2:¬ u.2=x:=fun z=>h (by rw [z];exact List.mem_cons_of_mem _ List.mem_cons_self)
    unfold otherW
    rw [List.findSome?_cons,if_neg h1,if_neg h2]
    exact otherW_none fun z=>h (List.mem_cons_of_mem _ (List.mem_cons_of_mem _ z))
theorem otherW_snoc (ws:List (Nat × Nat)) (u:Nat × Nat) (m:Nat):otherW (ws++[u]) m=(otherW ws m).or (if u.1=m then some u.2 else if u.2=m then some u.1 else none):=by
  unfold otherW
  rw [List.findSome?_append]
  congr 1
  rw [List.findSome?_cons,List.findSome?_nil]
  split <;> simp_all
theorem flat_at:∀ {ws:List (Nat × Nat)} {i:Nat} {u:Nat × Nat},ws[i]?=some u→(flat ws)[2*i]?=some u.1∧(flat ws)[2*i+1]?=some u.2
  | [],i,u,h=>by simp at h
  | v::ws,0,u,h=>by
    have e:v=u:=Option.some.inj h
    subst e
    exact ⟨rfl,rfl⟩
  | v::ws,i+1,u,h=>by
    have ih:=flat_at (ws:=ws) (i:=i) (u:=u) (by simpa using h)
    rw [flat_cons,show 2*(i+1)=2*i+1+1 by omega]
    exact ih
theorem flat_len (ws:List (Nat × Nat)):(flat ws).length=2*ws.length:=by
  induction ws with
  | nil=>rfl
  | cons u ws ih=>rw [flat_cons,List.length_cons,List.length_cons,ih,List.length_cons];omega
theorem flat_take (ws:List (Nat × Nat)):∀ i,flat (ws.take i)=(flat ws).take (2*i):=by
  induction ws with
  | nil=>intro i;simp [flat]
  | cons u ws ih =>
    intro i
    cases i with
    | zero=>rfl
    | succ i =>
      rw [List.take_succ_cons,flat_cons,flat_cons,ih i,show 2*(i+1)=2*i+1+1 by omega]
      rfl
theorem nd_take {l:List Nat} (h:l.Nodup) {i:Nat} {x:Nat} (e:l[i]?=some x) {j:Nat} (hj:j≤i):x∉l.take j:=by
  intro z
  obtain ⟨k,hk⟩:=List.getElem?_of_mem z
  have hkj:k<j:=by
    have:=(List.getElem?_eq_some_iff.mp hk).1
    rw [List.length_take] at this
    omega
  rw [List.getElem?_take_of_lt hkj] at hk
  have:=nd_ix h hk e
  omega
section
variable {P:Program} {w:World} {K:PySem.W.Frag} {mg:Str→Option Value} {base:Heap} {C CR:Addr}
def spFindMates:Sp:=fun vs H Q _=>∃ (a:Addr) (ws:List (Nat × Nat)),vs=[.ref a]∧H a=some (.lst (nats (flat ws)))∧(flat ws).Nodup∧ws.length≤100 ∧
  ∀ H' d kvs,H d=none→Same H H'→H' d=some (.dK kvs)→DictIs kvs (otherW ws)→Q (.ref d) H'
theorem sc_find_mates:FnScope ["places", "mates", "k"] ["places"] (defScope s_find_mates):=⟨rfl,rfl,rfl,by decide +kernel,rfl,by decide +kernel,by decide +kernel⟩
theorem ok_find_mates {f:Addr} {fd:FuncData} (F:Fun K "find_mates" "find_mates" s_find_mates f fd) (T:Txt K mg C CR):FnOk P w K mg base CX0 1 f fd ["places"] spFindMates:=by
  refine F.ok sc_find_mates (fun vs H Q E h=>?_) (fun cdv A0 outer s0 H vs Q E hr h=>?_)
  · obtain ⟨a,ws,rfl,_⟩:=h
    rfl
  · obtain ⟨a,ws,rfl,ha,hnd,h100,k⟩:=h
    have nd:=sc_find_mates.nd
    have hu:=hu_of hr
    refine ⟨_,(pss_cons (ps_set (i:=1) nd rfl (Or.inl rfl) pe_dnewK) (pss_cons (ps_for PassesOwn.never rfl (pi_range3 rfl T.b_range (pa_cons pe_int (pa_cons (pe_callB call_len_seq (by rfl) T.b_len PySem.boot_len (pa_cons (pv 0) pa_nil)) (pa_cons pe_int pa_nil)))) (pg_name (i:=2) nd rfl (Or.inl rfl)) (pss_cons (ps_dput hu (pv 1) (pe_ix ix_list (pv 0) (pv 2) (fun _ _=>rfl)) (pe_ix ix_list (pv 0) (pe_op op_add (pv 2) pe_int) (fun _ _=>rfl)) rfl) (pss_one (ps_dput hu (pv 1) (pe_ix ix_list (pv 0) (pe_op op_add (pv 2) pe_int) (fun _ _=>rfl)) (pe_ix ix_list (pv 0) (pv 2) (fun _ _=>rfl)) rfl)))) (pss_one (ps_ret (pv 1))))),?_⟩
    intro d hd
    have s1:Same H (upd H d (.dK [])):=Same.upd (Same.refl _) hd
    have st:∀ {H' : Hp} {u:HO},Same H H'→Same H (upd H' d u):=fun {H' u} s b o e=>by
      rw [upd_ne (ne_of_none e hd)]
      exact s b o e
    have el:((nats (flat ws)).length:Int)=2*(ws.length:Int):=by rw [List.length_map,flat_len];omega
    refine ⟨_,rfl,a,_,rfl,.inl (SqL.of (s1 _ _ ha)),0,2*(ws.length:Int),2,ws.length,by rw [el],rg2 (by omega),
      for_rangeC (n:=ws.length) (fun i σ H'=>∃ c,σ=[some (.ref a),some (.ref d),c]∧Same H H'∧∃ kvs,H' d=some (.dK kvs)∧kvs.length≤2*i∧DictIs kvs (otherW (ws.take i)))
      ⟨none,rfl,s1,[],upd_same,Nat.le_refl _,⟨List.nodup_nil,fun n=>rfl,fun k hk=>absurd hk (by simp)⟩⟩ ?_ ?_⟩
    · rintro i σ H' hi ⟨c,rfl,s2,kvs,hd',hlen,dd⟩
      have hu_:=List.getElem?_eq_getElem (l:=ws) (i:=i) hi
      obtain ⟨f1,f2⟩:=flat_at hu_
      have n1:ws[i].1∉flat (ws.take i):=by rw [flat_take];exact nd_take hnd f1 (Nat.le_refl _)
      have n2:ws[i].2∉flat (ws.take i):=by rw [flat_take];exact nd_take hnd f2 (by omega)
      have n3:ws[i].1≠ws[i].2:=fun z=>by
        rw [← z] at f2
        have:=nd_ix hnd f1 f2
        omega
      have a1:atI (nats (flat ws)) (0+(i:Int)*2)=some (nV ws[i].1):=by
        rw [show (0+(i:Int)*2)=((2*i:Nat):Int) by omega]
        refine atI_nat ?_
        rw [List.getElem?_map,f1];rfl
      have a2:atI (nats (flat ws)) (0+(i:Int)*2+1)=some (nV ws[i].2):=by
        rw [show (0+(i:Int)*2+1)=((2*i+1:Nat):Int) by omega]
        refine atI_nat ?_
        rw [List.getElem?_map,f2];rfl
      have l1:=length_putK kvs (.inl (ws[i].1:Int)) (nV ws[i].2)
      have l2:=length_putK (putK kvs (.inl (ws[i].1:Int)) (nV ws[i].2)) (.inl (ws[i].2:Int)) (nV ws[i].1)
      have s3:Same H (upd H' d (.dK (putK kvs (.inl (ws[i].1:Int)) (nV ws[i].2)))):=st s2
      refine ⟨_,rfl,_,rfl,_,_,rfl,rfl,a,_,_,nV ws[i].2,rfl,rfl,SqL.of (s2 _ _ ha),a2,_,rfl,_,rfl,_,rfl,a,_,_,nV ws[i].1,rfl,rfl,SqL.of (s2 _ _ ha),a1,d,_,rfl,DPut.k (k:=Sum.inl (ws[i].1:Int)) hd' (small1000 (by omega)),?_⟩
      refine ⟨_,rfl,_,rfl,a,_,_,nV ws[i].1,rfl,rfl,SqL.of (s3 _ _ ha),a1,_,rfl,_,rfl,_,rfl,_,_,rfl,rfl,a,_,_,nV ws[i].2,rfl,rfl,SqL.of (s3 _ _ ha),a2,d,_,rfl,DPut.k (k:=Sum.inl (ws[i].2:Int)) upd_same (small1000 (by omega)),?_⟩
      refine ⟨_,rfl,st s3,_,upd_same,by omega,?_⟩
      have d1:=dd.put ws[i].1 ws[i].2 (otherW_none n1)
      have d2:=d1.put ws[i].2 ws[i].1 (by show (if ws[i].2=ws[i].1 then _ else _)=none;rw [if_neg (fun z=>n3 z.symm)];exact otherW_none n2)
      refine d2.congr fun m=>?_
      rw [take_snoc hu_,otherW_snoc]
      by_cases z2:m=ws[i].2
      · subst z2
        rw [if_pos rfl,otherW_none n2,if_neg n3,if_pos rfl];rfl
      · rw [if_neg z2]
        by_cases z1:m=ws[i].1
        · subst z1
          rw [if_pos rfl,otherW_none n1,if_pos rfl];rfl
        · rw [if_neg z1,if_neg (fun z=>z1 z.symm),if_neg (fun z=>z2 z.symm),Option.or_none]
    · rintro σ H' ⟨c,rfl,s2,kvs,hd',hlen,dd⟩
      rw [List.take_length] at dd
      exact ⟨_,rfl,k H' d kvs hd s2 hd' dd⟩
def spRuleInit (CR:Addr):Sp:=fun vs H Q _=>∃ (p dx:Addr) (v1 v2 v3:V),vs=[.ref p,v1,v2,v3]∧H p=some (.ins CR dx [])∧∀ H' : Hp,H' p=some (.ins CR dx [("first",v1),("symbols",v2),("mates",v3)])→(∀ b o,H b=some o→b≠p→H' b=some o)→Q .non H'
theorem sc_Rule___init__:FnScope ["self", "first", "symbols", "mates"] ["self", "first", "symbols", "mates"] (defScope s_Rule___init__):=⟨rfl,rfl,rfl,by decide +kernel,rfl,by decide +kernel,by decide +kernel⟩
theorem ok_rule_init {f:Addr} {fd:FuncData} (F:Fun K "__init__" "Rule.__init__" s_Rule___init__ f fd) (T:Txt K mg C CR):FnOk P w K mg base CX0 1 f fd ["self", "first", "symbols", "mates"] (spRuleInit CR):=by
  refine F.ok sc_Rule___init__ (fun vs H Q E h=>?_) (fun cdv A0 outer s H vs Q E hr h=>?_)
  · obtain ⟨p,dx,v1,v2,v3,rfl,_⟩:=h
    rfl
  · obtain ⟨p,dx,v1,v2,v3,rfl,hp,k⟩:=h
    refine ⟨_,(pss_cons (ps_fld (pv 0) (pv 1) rfl) (pss_cons (ps_fld (pv 0) (pv 2) rfl) (pss_one (ps_fld (pv 0) (pv 3) rfl)))),?_⟩
    refine ⟨_,rfl,_,rfl,p,CR,dx,_,rfl,hp,T.clR,T.nFirst,(by show 0<1000;decide),?_⟩
    refine ⟨_,rfl,_,rfl,p,CR,dx,_,rfl,upd_same,T.clR,T.nSymbols,(by show 1<1000;decide),?_⟩
    refine ⟨_,rfl,_,rfl,p,CR,dx,_,rfl,upd_same,T.clR,T.nMates,(by show 2<1000;decide),?_⟩
    exact k _ upd_same fun b o e hb=>by rw [upd_ne hb,upd_ne hb,upd_ne hb];exact e
theorem empty_sym (a:Nat):Nets.empty.symAt a=none:=by
  unfold Nets.Rec.symAt Nets.empty
  rw [List.getD_eq_getElem?_getD,List.getElem?_replicate]
  split <;> rfl
theorem empty_at (a:Nat):Nets.empty.at_ a=none:=by
  unfold Nets.Rec.at_ Nets.empty
  rw [List.getD_eq_getElem?_getD,List.getElem?_replicate]
  split <;> rfl
theorem empty_ok:RecOk Nets.empty:=by
  refine ⟨fun n hn=>absurd hn (by simp [Nets.empty]),by decide,by decide,by decide,fun a s h=>?_,fun x y h=>?_⟩
  · rw [empty_sym] at h;cases h
  · rw [empty_at] at h;cases h
def spRecInit (C CR:Addr):Sp:=fun vs H Q _=>∃ (p dx:Addr),vs=[.ref p]∧H p=some (.ins C dx []) ∧
  ∀ (H' : Hp) (A:RecAd),A.p=p→RecAt C CR H' A Nets.empty→(∀ b o,H b=some o→b≠p→H' b=some o)→(∀ b∈A.fp,b=p∨H b=none)→Q .non H'
theorem sc_Record___init__:FnScope ["self"] ["self"] (defScope s_Record___init__):=⟨rfl,rfl,rfl,by decide +kernel,rfl,by decide +kernel,by decide +kernel⟩
theorem ok_rec_init {f:Addr} {fd:FuncData} (F:Fun K "__init__" "Record.__init__" s_Record___init__ f fd) (T:Txt K mg C CR):FnOk P w K mg base CX0 1 f fd ["self"] (spRecInit C CR):=by
  refine F.ok sc_Record___init__ (fun vs H Q E h=>?_) (fun cdv A0 outer s H vs Q E hr h=>?_)
  · obtain ⟨p,dx,rfl,_⟩:=h
    rfl
  · obtain ⟨p,dx,rfl,hp,k⟩:=h
    refine ⟨_,(pss_cons (ps_fld (pv 0) (pe_lst pa_nil) rfl) (pss_cons (ps_fld (pv 0) pe_dnewT rfl) (pss_cons (ps_fld (pv 0) pe_dnewK rfl) (pss_one (ps_fld (pv 0) pe_dnewK rfl))))),?_⟩
    refine ⟨Nat.zero_le _,fun mp hmp=>?_⟩
    have n1:p≠mp:=ne_of_none hp hmp
    refine ⟨_,rfl,p,C,dx,_,rfl,(by rw [upd_ne n1];exact hp),T.cl,T.nMore,(by show 0<1000;decide),?_⟩
    intro ru hru
    have n2:=upd_none hru
    have n3:=upd_none n2.1
    refine ⟨_,rfl,p,C,dx,_,rfl,(by rw [upd_ne n2.2.symm];exact upd_same),T.cl,T.nRules,(by show 1<1000;decide),?_⟩
    intro ag hag
    have m2:=upd_none hag
    have m3:=upd_none m2.1
    have m4:=upd_none m3.1
    have m5:=upd_none m4.1
    refine ⟨_,rfl,p,C,dx,_,rfl,(by rw [upd_ne m2.2.symm];exact upd_same),T.cl,T.nAgents,(by show 2<1000;decide),?_⟩
    intro jo hjo
    have q2:=upd_none hjo
    have q3:=upd_none q2.1
    have q4:=upd_none q3.1
    have q5:=upd_none q4.1
    have q6:=upd_none q5.1
    have q7:=upd_none q6.1
    refine ⟨_,rfl,p,C,dx,_,rfl,(by rw [upd_ne q2.2.symm];exact upd_same),T.cl,T.nJoined,(by show 3<1000;decide),?_⟩
    refine k _ ⟨p,dx,mp,ru,ag,jo,[]⟩ rfl ⟨⟨n1,n2.2.symm,m2.2.symm,q2.2.symm,n3.2.symm,m5.2.symm,q7.2.symm,m3.2.symm,q5.2.symm,q3.2.symm,fun a ha=>absurd ha (by simp)⟩,upd_same,?_,⟨[],?_,?_⟩,⟨[],?_,?_⟩,?_,rfl,fun i a R h=>absurd h (by simp)⟩ ?_ ?_
    · show upd _ p _ mp=_
      rw [upd_ne n1.symm,upd_ne q7.2.symm,upd_ne n1.symm,upd_ne m5.2.symm,upd_ne n1.symm,upd_ne n3.2.symm,upd_ne n1.symm,upd_same];rfl
    · show upd _ p _ ag=_
      rw [upd_ne m2.2,upd_ne q3.2.symm,upd_ne m2.2,upd_same]
    · exact ⟨List.nodup_nil,fun n=>by rw [empty_sym];rfl,fun k hk=>absurd hk (by simp)⟩
    · show upd _ p _ jo=_
      rw [upd_ne q2.2,upd_same]
    · exact ⟨List.nodup_nil,fun n=>by rw [empty_at];rfl,fun k hk=>absurd hk (by simp)⟩
    · show upd _ p _ ru=_
      rw [upd_ne n2.2,upd_ne q5.2.symm,upd_ne n2.2,upd_ne m3.2.symm,upd_ne n2.2,upd_same];rfl
    · intro b o e hb
      rw [upd_ne hb,upd_ne (ne_of_none e q7.1),upd_ne hb,upd_ne (ne_of_none e m5.1),upd_ne hb,upd_ne (ne_of_none e n3.1),upd_ne hb,upd_ne (ne_of_none e hmp)]
      exact e
    · intro b hb
      unfold RecAd.fp at hb
      simp at hb
      rcases hb with rfl | rfl | rfl | rfl | rfl
      · exact .inl rfl
      · exact .inr hmp
      · exact .inr n3.1
      · exact .inr m5.1
      · exact .inr q7.1
end
structure MatesOk (news:List Nat) (f:Nat→Option Nat):Prop where
  inv:∀ x y,f x=some y→f y=some x
  lt:∀ x y,f x=some y→x<64→x / 4<news.length
  port:∀ i i' j,j<4→i<news.length→i'<news.length→news.getD i 0=news.getD i' 0→(f (4*i+j)).isSome=true→(f (4*i'+j)).isSome=true
  old:∀ x,64≤x→(f x).isSome=true→(f (exN x)).isSome=true
def OldOk (f:Nat→Option Nat):Prop:=∀ n m,f n=some m→64≤n→64≤m→f (exN n)=some (exN m)
theorem upd_back {H:Hp} {d:Addr} {u v:HO} (h:H d=some u):Same H (upd (upd H d v) d u):=fun b o e=>by
  rw [upd_upd]
  by_cases z:b=d
  · subst z
    rw [upd_same]
    rw [h] at e
    exact e
  · rw [upd_ne z];exact e
theorem DGet.frz {H:Hp} {a:Addr} {ob:Obj} {kvs:List (Key × V)} {k:Key} (e:H a=some (.frz ob (.dK kvs))):DGet H a (kV k) (valV kvs k):=.inl ⟨kvs,k,.inr ⟨ob,e⟩,rfl,rfl⟩
section
variable {P:Program} {w:World} {K:PySem.W.Frag} {mg:Str→Option Value} {base:Heap} {C CR:Addr}
def spKeepsOld:Sp:=fun vs H Q _=>∃ (d:Addr) (kvs:List (Key × V)) (f:Nat→Option Nat),vs=[.ref d]∧H d=some (.dK kvs)∧DictIs kvs f∧(∀ x,64≤x→(f x).isSome=true→(f (exN x)).isSome=true) ∧
  ∀ H' (b:Bool),Same H H'→(b=true↔OldOk f)→Q (.bl b) H'
theorem sc_keeps_old_wires:FnScope ["mates", "place", "mate"] ["mates"] (defScope s_keeps_old_wires):=⟨rfl,rfl,rfl,by decide +kernel,rfl,by decide +kernel,by decide +kernel⟩
theorem ok_keeps_old_wires {f:Addr} {fd:FuncData} (F:Fun K "keeps_old_wires" "keeps_old_wires" s_keeps_old_wires f fd) (T:Txt K mg C CR) (D_exchanged:Df P w K mg base "exchanged" ["place"] 1 spExchanged):FnOk P w K mg base CX0 2 f fd ["mates"] spKeepsOld:=by
  refine F.ok sc_keeps_old_wires (fun vs H Q E h=>?_) (fun cdv A0 outer s0 H vs Q E hr h=>?_)
  · obtain ⟨d,kvs,f,rfl,_⟩:=h
    rfl
  · obtain ⟨d,kvs,f,rfl,hd,dd,hex,k⟩:=h
    have nd:=sc_keeps_old_wires.nd
    have hu:=hu_of hr
    refine ⟨_,(pss_cons (ps_lock (ps_for PassesOwn.never rfl (pi_keys (pv 0)) (pg_name (i:=1) nd rfl (Or.inl rfl)) (pss_cons (ps_set (i:=2) nd rfl (Or.inl rfl) (pe_dget hu (pv 0) (pv 1) (fun _ _=>rfl))) (pss_one (ps_if (PW.pt (pw_and (pt_cmpR op_ge (pv 1) (pe_glV rfl T.c_FIRST_OLD) (nomark _)) (pw_and (pt_cmpR op_ge (pv 2) (pe_glV rfl T.c_FIRST_OLD) (nomark _)) (pw_and1 (pt_cmpR op_ne (pe_dget hu (pv 0) (pe_callD D_exchanged (hr.mono (by decide)) rfl (pa_cons (pv 1) pa_nil)) (fun _ _=>rfl)) (pe_callD D_exchanged (hr.mono (by decide)) rfl (pa_cons (pv 2) pa_nil)) (nomark _)))))) (pss_one (ps_ret pe_bl)) pss_nil))))) (pss_one (ps_ret pe_bl))),?_⟩
    refine ⟨d,.dK kvs,hd,True.intro,fun od=>⟨_,rfl,d,od,rfl,.inl ⟨kvs,upd_same,?_⟩⟩⟩
    have hf:(upd H d (.frz od (.dK kvs))) d=some (.frz od (.dK kvs)):=upd_same
    have get:∀ n m:Nat,f n=some m→DGet (upd H d (.frz od (.dK kvs))) d (nV n) (some (nV m)):=fun n m e=>by
      have q:=DGet.frz (k:=Sum.inl (n:Int)) hf
      rw [dd.val,e] at q
      exact q
    refine for_keys (fun i σ H'=>H'=upd H d (.frz od (.dK kvs))∧(∃ a b,σ=[some (.ref d),a,b])∧∀ p∈kvs.take i,∀ n m:Nat,p.1=.inl (n:Int)→f n=some m→64≤n→64≤m→f (exN n)=some (exN m))
      ⟨rfl,⟨none,none,rfl⟩,fun p hp=>absurd hp (by simp)⟩ (fun i σ H' _ ⟨e,_⟩=>by rw [e];exact hf) ?_ ?_
    · rintro i ky v σ H' hi ⟨rfl,⟨a,b,rfl⟩,hall⟩
      obtain ⟨n,rfl⟩:=dd.key ky (List.mem_map.mpr ⟨_,List.mem_of_getElem? hi,rfl⟩)
      have hsn:=(dd.mem n).mp (List.mem_map.mpr ⟨_,List.mem_of_getElem? hi,rfl⟩)
      obtain ⟨m,hm⟩:=Option.isSome_iff_exists.mp hsn
      have next:(64≤n→64≤m→f (exN n)=some (exN m))→∀ p∈kvs.take (i+1),∀ n m:Nat,p.1=.inl (n:Int)→f n=some m→64≤n→64≤m→f (exN n)=some (exN m):=fun hgood p hp n' m' e1 e2 h1 h2=>by
        rw [take_snoc hi] at hp
        rcases List.mem_append.mp hp with z | z
        · exact hall p z n' m' e1 e2 h1 h2
        · have e:p=(.inl (n:Int),v):=by simpa using z
          subst e
          have e3:n'=n:=by
            injection e1 with e1
            omega
          subst e3
          rw [hm] at e2
          cases e2
          exact hgood h1 h2
      refine ⟨_,rfl,_,rfl,d,nV m,rfl,get n m hm,?_⟩
      refine ⟨_,rfl,_,_,rfl,rfl,_,rfl,ite2 (fun c=>?_) (fun c=>?_)⟩
      · have c:(64:Int)≤n:=of_decide_eq_true c
        refine ⟨_,rfl,_,_,rfl,rfl,_,rfl,ite2 (fun c1=>?_) (fun c1=>?_)⟩
        · have c1:(64:Int)≤m:=of_decide_eq_true c1
          obtain ⟨z,hz⟩:=Option.isSome_iff_exists.mp (hex n (by omega) hsn)
          refine ⟨_,rfl,_,rfl,n,rfl,d,nV z,rfl,get (exN n) z hz,_,rfl,m,rfl,rfl,_,rfl,ite2 (fun c2=>?_) (fun c2=>?_)⟩
          · have c2:¬ nV z=nV (exN m):=by simpa using c2
            refine ⟨hf,k _ false (upd_back hd) ⟨fun q=>(by cases q),fun q=>?_⟩⟩
            have q2:=q n m hm (by omega) (by omega)
            rw [hz] at q2
            exact absurd (by cases q2;rfl) c2
          · have c2:nV z=nV (exN m):=by simpa using c2
            refine ⟨rfl,⟨_,_,rfl⟩,next fun _ _=>?_⟩
            rw [hz,nV_eq.mp c2]
        · have c1:¬ (64:Int)≤m:=fun z=>c1 (decide_eq_true z)
          exact iteF ⟨rfl,⟨_,_,rfl⟩,next fun _ h=>absurd h (by omega)⟩
      · have c:¬ (64:Int)≤n:=fun z=>c (decide_eq_true z)
        exact iteF ⟨rfl,⟨_,_,rfl⟩,next fun h=>absurd h (by omega)⟩
    · rintro σ H' ⟨rfl,⟨a,b,rfl⟩,hall⟩
      refine ⟨hf,k _ true (upd_back hd) ⟨fun _=>?_,fun _=>rfl⟩⟩
      intro n m hm h1 h2
      rw [List.take_length] at hall
      have hk:=(dd.mem n).mpr (by rw [hm];rfl)
      obtain ⟨p,hp,e⟩:=List.mem_map.mp hk
      exact hall p hp n m e hm h1 h2
def canFollow (news:List Nat) (f:Nat→Option Nat) (order:List Nat) (agent:Nat):Bool :=
  decide (news.getD order.length 0=news.getD agent 0) && (List.range 4).all fun j=>match f (4*order.length+j) with
    | none=>true
    | some m=>if placed m (order.length+1)=true then decide (f (4*agent+j)=some (Nets.exchanged (order++[agent]) m)) else true
def spCanFollow:Sp:=fun vs H Q _=>∃ (sy d o:Addr) (news order:List Nat) (kvs:List (Key × V)) (f:Nat→Option Nat) (agent:Nat),vs=[.ref sy,.ref d,.ref o,nV agent]∧H sy=some (.lst (nats news))∧H d=some (.dK kvs)∧DictIs kvs f∧MatesOk news f∧news.length≤6∧H o=some (.lst (nats order)) ∧
  order.length<news.length∧agent<news.length∧∀ H',Same H H'→Q (.bl (canFollow news f order agent)) H'
theorem sc_can_follow:FnScope ["symbols", "mates", "order", "agent", "longer", "j", "place"] ["symbols", "mates", "order", "agent"] (defScope s_can_follow):=⟨rfl,rfl,rfl,by decide +kernel,rfl,by decide +kernel,by decide +kernel⟩
theorem ok_can_follow {f:Addr} {fd:FuncData} (F:Fun K "can_follow" "can_follow" s_can_follow f fd) (T:Txt K mg C CR) (D_is_placed:Df P w K mg base "is_placed" ["place", "order"] 1 spIsPlaced) (D_moved:Df P w K mg base "moved" ["place", "order"] 2 spMoved) :
    FnOk P w K mg base CX0 3 f fd ["symbols", "mates", "order", "agent"] spCanFollow:=by
  refine F.ok sc_can_follow (fun vs H Q E h=>?_) (fun cdv A0 outer s0 H vs Q E hr h=>?_)
  · obtain ⟨sy,d,o,news,order,kvs,f,agent,rfl,_⟩:=h
    rfl
  · obtain ⟨sy,d,o,news,order,kvs,f,agent,rfl,hsy,hd,dd,mo,h6,ho,hol,hag,k⟩:=h
    have nd:=sc_can_follow.nd
    have hu:=hu_of hr
    have eo:(nats order).length=order.length:=List.length_map ..
    refine ⟨_,(pss_cons (ps_if (pt_cmpR op_ne (pe_ix ix_list (pv 0) (pe_callB call_len_seq (by rfl) T.b_len PySem.boot_len (pa_cons (pv 2) pa_nil)) (fun _ _=>rfl)) (pe_ix ix_list (pv 0) (pv 3) (fun _ _=>rfl)) (nomark _)) (pss_one (ps_ret pe_bl)) pss_nil) (pss_cons (ps_set (i:=4) nd rfl (Or.inl rfl) (pe_op op_cat (pv 2) (pe_lst (pa_cons (pv 3) pa_nil)))) (pss_cons (ps_for PassesOwn.never rfl (pi_range1 rfl T.b_range (pa_cons (pe_glV rfl T.c_PORTS_APART) pa_nil)) (pg_name (i:=5) nd rfl (Or.inl rfl)) (pss_cons (ps_set (i:=6) nd rfl (Or.inl rfl) (pe_op op_add (pe_op op_mul (pe_glV rfl T.c_PORTS_APART) (pe_callB call_len_seq (by rfl) T.b_len PySem.boot_len (pa_cons (pv 2) pa_nil))) (pv 5))) (pss_one (ps_if (PW.pt (pw_and (pt_cmp (pc_din hu (pv 6) (pv 1))) (pw_and1 (pt_val (pe_callD D_is_placed (hr.mono (by decide)) rfl (pa_cons (pe_dget hu (pv 1) (pv 6) (fun _ _=>rfl)) (pa_cons (pv 4) pa_nil))))))) (pss_one (ps_if (pt_cmpR op_ne (pe_dget hu (pv 1) (pe_op op_add (pe_op op_mul (pe_glV rfl T.c_PORTS_APART) (pv 3)) (pv 5)) (fun _ _=>rfl)) (pe_callD D_moved (hr.mono (by decide)) rfl (pa_cons (pe_dget hu (pv 1) (pv 6) (fun _ _=>rfl)) (pa_cons (pv 4) pa_nil))) (nomark _)) (pss_one (ps_ret pe_bl)) pss_nil)) pss_nil)))) (pss_one (ps_ret pe_bl))))),?_⟩
    refine ⟨_,rfl,_,rfl,o,_,rfl,.inl (SqL.of ho),sy,_,_,nV (news.getD order.length 0),rfl,rfl,SqL.of hsy,(by rw [eo];exact nats_at hol),_,rfl,_,rfl,sy,_,_,nV (news.getD agent 0),rfl,rfl,SqL.of hsy,nats_at hag,rfl,_,rfl,ite2 (fun c=>?_) (fun c=>?_)⟩
    · have c:¬ nV (news.getD order.length 0)=nV (news.getD agent 0):=by simpa using c
      have q:=k H (Same.refl _)
      have e:canFollow news f order agent=false:=by
        unfold canFollow
        rw [decide_eq_false (fun z=>c (nV_eq.mpr z))];rfl
      rw [e] at q
      exact q
    · have c:nV (news.getD order.length 0)=nV (news.getD agent 0):=by simpa using c
      have c:news.getD order.length 0=news.getD agent 0:=nV_eq.mp c
      refine ⟨_,rfl,_,rfl,(by show 1≤sizeLine;decide),fun t1 ht1=>?_⟩
      have s1:Same H (upd H t1 (.lst [nV agent])):=Same.upd (Same.refl _) ht1
      refine ⟨o,t1,_,_,rfl,rfl,s1 _ _ ho,upd_same,(by rw [eo];exact Nat.le_of_lt (small1000 (by show order.length+1≤1000;omega))),fun lo hlo=>?_⟩
      have s2:=Same.upd (o:=.lst (nats order++[nV agent])) s1 hlo
      have elo:nats order++[nV agent]=nats (order++[agent]):=snocV order agent rfl
      rw [elo] at s2 ⊢
      generalize hH2:upd (upd H t1 (.lst [nV agent])) lo (.lst (nats (order++[agent])))=H2 at *
      have hlo2:H2 lo=some (.lst (nats (order++[agent]))):=by rw [← hH2];exact upd_same
      have ho2:=s2 _ _ ho
      have hd2:=s2 _ _ hd
      have get:∀ n m:Nat,f n=some m→DGet H2 d (nV n) (some (nV m)):=fun n m e=>by
        have q:=DGet.k (k:=Sum.inl (n:Int)) hd2
        rw [dd.val,e] at q
        exact q
      refine ⟨4,rfl,by decide,by decide,for_range (n:=4) (fun i σ H'=>H'=H2∧(∃ a b,σ=[some (.ref sy),some (.ref d),some (.ref o),some (nV agent),some (.ref lo),a,b])∧∀ j,j<i→(match f (4*order.length+j) with
        | none=>true
        | some m=>if placed m (order.length+1)=true then decide (f (4*agent+j)=some (Nets.exchanged (order++[agent]) m)) else true)=true)
        ⟨rfl,⟨none,none,rfl⟩,fun j hj=>absurd hj (by omega)⟩ ?_ ?_⟩
      · rintro i σ H' hi ⟨rfl,⟨a,b,rfl⟩,hall⟩
        have next:(match f (4*order.length+i) with
          | none=>true
          | some m=>if placed m (order.length+1)=true then decide (f (4*agent+i)=some (Nets.exchanged (order++[agent]) m)) else true)=true→∀ j,j<i+1→(match f (4*order.length+j) with
          | none=>true
          | some m=>if placed m (order.length+1)=true then decide (f (4*agent+j)=some (Nets.exchanged (order++[agent]) m)) else true)=true:=fun h j hj=>by
          by_cases z:j=i
          · subst z;exact h
          · exact hall j (by omega)
        have epl:(4:Int)*((nats order).length:Int)+(0+(i:Int))=((4*order.length+i:Nat):Int):=by rw [eo];omega
        refine ⟨_,rfl,o,_,rfl,.inl (SqL.of ho2),_,_,rfl,rfl,.inl ⟨by decide,by decide⟩,_,rfl,_,_,rfl,rfl,?_⟩
        refine ⟨_,rfl,_,rfl,d,_,rfl,(by show DGet H' d (V.int (4*((nats order).length:Int)+(0+(i:Int)))) _;rw [epl];exact DGet.k (k:=Sum.inl ((4*order.length+i:Nat):Int)) hd2),_,rfl,?_⟩
        rw [dd.val]
        cases hm:f (4*order.length+i) with
        | none =>
          refine iteF (iteF ⟨rfl,⟨_,_,rfl⟩,next ?_⟩)
          rw [hm]
        | some m =>
          have gm:DGet H' d (V.int (4*((nats order).length:Int)+(0+(i:Int)))) (some (nV m)):=by rw [epl];exact get _ m hm
          have hml:m<64→m / 4<news.length:=fun z=>mo.lt m _ (mo.inv _ _ hm) z
          refine iteT ⟨_,rfl,_,rfl,d,nV m,rfl,gm,_,rfl,m,lo,order++[agent],rfl,hlo2,_,rfl,?_⟩
          have el2:(order++[agent]).length=order.length+1:=by simp
          rw [el2]
          cases hp:placed m (order.length+1) with
          | false =>
            refine iteF ⟨rfl,⟨_,_,rfl⟩,next ?_⟩
            rw [hm]
            show (if placed m (order.length+1)=true then _ else true)=true
            rw [hp];rfl
          | true =>
            obtain ⟨z,hz⟩:=Option.isSome_iff_exists.mp (mo.port order.length agent i hi hol hag c (by rw [hm];rfl))
            have ep2:(4:Int)*(agent:Int)+(0+(i:Int))=((4*agent+i:Nat):Int):=by omega
            have gz:DGet H' d (V.int (4*(agent:Int)+(0+(i:Int)))) (some (nV z)):=by rw [ep2];exact get _ z hz
            have hpl:m<64→m / 4<(order++[agent]).length:=fun q=>by
              rw [el2]
              unfold placed at hp
              rw [Bool.or_eq_true] at hp
              rcases hp with y | y
              · exact absurd (of_decide_eq_true y) (by omega)
              · exact of_decide_eq_true y
            refine iteT ⟨_,rfl,_,rfl,_,_,rfl,rfl,.inl ⟨by decide,by decide⟩,_,rfl,_,_,rfl,rfl,d,nV z,rfl,gz,_,rfl,_,rfl,d,nV m,rfl,gm,_,rfl,m,lo,order++[agent],rfl,hlo2,hpl,rfl,_,rfl,ite2 (fun c2=>?_) (fun c2=>?_)⟩
            · have c2:¬ nV z=nV (Nets.exchanged (order++[agent]) m):=by simpa using c2
              have q:=k H' s2
              have e:canFollow news f order agent=false:=by
                unfold canFollow
                rw [Bool.and_eq_false_iff]
                refine .inr (List.all_eq_false.mpr ⟨i,List.mem_range.mpr hi,?_⟩)
                rw [hm]
                show ¬ (if placed m (order.length+1)=true then _ else true)=true
                rw [hp,if_pos rfl,hz,decide_eq_false (fun y=>c2 (by cases y;rfl))]
                simp
              rw [e] at q
              exact q
            · have c2:nV z=nV (Nets.exchanged (order++[agent]) m):=by simpa using c2
              refine ⟨rfl,⟨_,_,rfl⟩,next ?_⟩
              rw [hm]
              show (if placed m (order.length+1)=true then _ else true)=true
              rw [hp,if_pos rfl,hz,nV_eq.mp c2]
              exact decide_eq_true rfl
      · rintro σ H' ⟨rfl,⟨a,b,rfl⟩,hall⟩
        have q:=k H' s2
        have e:canFollow news f order agent=true:=by
          unfold canFollow
          rw [Bool.and_eq_true]
          exact ⟨decide_eq_true c,List.all_eq_true.mpr fun j hj=>hall j (List.mem_range.mp hj)⟩
        rw [e] at q
        exact q
end
def Ord (news:List Nat) (f:Nat→Option Nat) (F:List Nat):Prop:=∀ i a,F[i]?=some a→a<news.length∧a∉F.take i∧canFollow news f (F.take i) a=true
theorem Ord.nil {news:List Nat} {f:Nat→Option Nat}:Ord news f []:=fun i a h=>by simp at h
theorem Ord.snoc {news:List Nat} {f:Nat→Option Nat} {o:List Nat} {a:Nat} (h:Ord news f o) (h1:a<news.length) (h2:a∉o) (h3:canFollow news f o a=true):Ord news f (o++[a]):=fun i b e=>by
  by_cases hi:i<o.length
  · rw [List.getElem?_append_left hi] at e
    rw [List.take_append_of_le_length (by omega)]
    exact h i b e
  · have hl:=(List.getElem?_eq_some_iff.mp e).1
    rw [List.length_append,List.length_singleton] at hl
    have ei:i=o.length:=by omega
    subst ei
    rw [List.getElem?_append_right (Nat.le_refl _),Nat.sub_self] at e
    have eb:a=b:=Option.some.inj e
    subst eb
    rw [List.take_append_of_le_length (Nat.le_refl _),List.take_length]
    exact ⟨h1,h2,h3⟩
theorem Ord.next {news:List Nat} {f:Nat→Option Nat} {o t:List Nat} {a:Nat} (h:Ord news f (o++a::t)):a<news.length∧a∉o∧canFollow news f o a=true:=by
  have q:=h o.length a (by rw [List.getElem?_append_right (Nat.le_refl _),Nat.sub_self];rfl)
  rw [List.take_append_of_le_length (Nat.le_refl _),List.take_length] at q
  exact q
theorem in_nats (a:Nat) (o:List Nat):inV (nV a) (nats o)=decide (a∈o):=by
  induction o with
  | nil=>rfl
  | cons b o ih =>
    show (eqV (nV b) (nV a) || inV (nV a) (nats o))=_
    rw [ih]
    by_cases h:b=a
    · subst h
      have e:eqV (nV b) (nV b)=true:=by simp [eqV]
      rw [e];simp
    · have e:eqV (nV b) (nV a)=false:=by
        simp [eqV]
        omega
      rw [e]
      have h2:¬ a=b:=fun z=>h z.symm
      simp [h2]
theorem flat_nats:∀ o:List Nat,(nats o).all flatV=true
  | []=>rfl
  | _::o=>by
    show (true && (nats o).all flatV)=true
    rw [flat_nats o];rfl
def wt (n:Nat) (l:List (Addr × List Nat)):Nat:=(l.map fun p=>(n+1) ^ (n - p.2.length)).sum
theorem wt_append (n:Nat) (a b:List (Addr × List Nat)):wt n (a++b)=wt n a+wt n b:=by
  unfold wt
  rw [List.map_append,List.sum_append]
theorem wt_kids (n k:Nat):∀ (l:List (Addr × List Nat)),(∀ p∈l,p.2.length=k)→wt n l=l.length*(n+1) ^ (n - k)
  | [],_=>by simp [wt]
  | p::l,h=>by
    have ih:=wt_kids n k l fun q hq=>h q (List.mem_cons_of_mem _ hq)
    have e:wt n (p::l)=(n+1) ^ (n - p.2.length)+wt n l:=by simp [wt]
    rw [e,ih,h p List.mem_cons_self,List.length_cons,Nat.add_mul,Nat.one_mul,Nat.add_comm]
theorem wt_less {n k m:Nat} (hk:k<n) (hm:m≤n):m*(n+1) ^ (n - (k+1))<(n+1) ^ (n - k):=by
  have e:n - k=(n - (k+1))+1:=by omega
  have hp:0<(n+1) ^ (n - (k+1)):=Nat.pow_pos (by omega)
  rw [e,Nat.pow_succ,Nat.mul_comm ((n+1) ^ (n - (k+1))) (n+1)]
  exact Nat.mul_lt_mul_of_pos_right (by omega) hp
theorem wt_len (n:Nat):∀ l:List (Addr × List Nat),l.length≤wt n l
  | []=>Nat.zero_le _
  | p::l=>by
    have ih:=wt_len n l
    have e:wt n (p::l)=(n+1) ^ (n - p.2.length)+wt n l:=by simp [wt]
    have hp:0<(n+1) ^ (n - p.2.length):=Nat.pow_pos (by omega)
    rw [e,List.length_cons]
    omega
theorem wt_top {n:Nat} (h:n≤6):(n+1) ^ n≤117649 :=
  Nat.le_trans (Nat.pow_le_pow_left (show n+1≤7 by omega) n) (Nat.pow_le_pow_right (by decide) h)
theorem snoc_ref (l:List (Addr × List Nat)) (p:Addr × List Nat):(l.map fun q=>V.ref q.1)++[V.ref p.1]=(l++[p]).map fun q=>V.ref q.1:=by
  rw [List.map_append];rfl
section
variable {P:Program} {w:World} {K:PySem.W.Frag} {mg:Str→Option Value} {base:Heap} {C CR:Addr}
def spIsEven:Sp:=fun vs H Q _=>∃ (sy d:Addr) (news:List Nat) (kvs:List (Key × V)) (f:Nat→Option Nat),vs=[.ref sy,.ref d]∧H sy=some (.lst (nats news))∧H d=some (.dK kvs)∧DictIs kvs f∧MatesOk news f∧news.length≤6 ∧
  ∀ H' (b:Bool),Same H H'→(b=true↔OldOk f∧∃ F,Ord news f F∧F.length=news.length)→Q (.bl b) H'
structure Wait (H:Hp) (w:Addr) (news:List Nat) (f:Nat→Option Nat) (l:List (Addr × List Nat)):Prop where
  lst:H w=some (.lst (l.map fun q=>V.ref q.1))
  at_:∀ p∈l,H p.1=some (.lst (nats p.2))∧p.1≠w∧Ord news f p.2∧p.2.length≤news.length
theorem sc_is_even:FnScope ["symbols", "mates", "waiting", "order", "agent"] ["symbols", "mates"] (defScope s_is_even):=⟨rfl,rfl,rfl,by decide +kernel,rfl,by decide +kernel,by decide +kernel⟩
theorem ok_is_even {f:Addr} {fd:FuncData} (F:Fun K "is_even" "is_even" s_is_even f fd) (T:Txt K mg C CR) (D_keeps_old_wires:Df P w K mg base "keeps_old_wires" ["mates"] 2 spKeepsOld) (D_can_follow:Df P w K mg base "can_follow" ["symbols", "mates", "order", "agent"] 3 spCanFollow) :
    FnOk P w K mg base CX0 4 f fd ["symbols", "mates"] spIsEven:=by
  refine F.ok sc_is_even (fun vs H Q E h=>?_) (fun cdv A0 outer s0 H vs Q E hr h=>?_)
  · obtain ⟨sy,d,news,kvs,f,rfl,_⟩:=h
    rfl
  · obtain ⟨sy,d,news,kvs,f,rfl,hsy,hd,dd,mo,h6,k⟩:=h
    have nd:=sc_is_even.nd
    have hu:=hu_of hr
    refine ⟨_,(pss_cons (ps_if (pt_not (pt_val (pe_callD D_keeps_old_wires (hr.mono (by decide)) rfl (pa_cons (pv 1) pa_nil)))) (pss_one (ps_ret pe_bl)) pss_nil) (pss_cons (ps_set (i:=2) nd rfl (Or.inl rfl) (pe_lst (pa_cons (pe_lst pa_nil) pa_nil))) (pss_cons (ps_while PassesOwn.never (pt_cmpR op_gt (pe_callB call_len_seq (by rfl) T.b_len PySem.boot_len (pa_cons (pv 2) pa_nil)) pe_int (nomark _)) (pss_cons (ps_set (i:=3) nd rfl (Or.inl rfl) (pe_bm0 PySem.F.plainAttrs_list PySem.F.slot_list_pop PySem.F.type_list_pop mt_pop (pv 2))) (pss_cons (ps_if (pt_cmpR op_eq (pe_callB call_len_seq (by rfl) T.b_len PySem.boot_len (pa_cons (pv 3) pa_nil)) (pe_callB call_len_seq (by rfl) T.b_len PySem.boot_len (pa_cons (pv 0) pa_nil)) (nomark _)) (pss_one (ps_ret pe_bl)) pss_nil) (pss_one (ps_for PassesOwn.never rfl (pi_range1 rfl T.b_range (pa_cons (pe_callB call_len_seq (by rfl) T.b_len PySem.boot_len (pa_cons (pv 0) pa_nil)) pa_nil)) (pg_name (i:=4) nd rfl (Or.inl rfl)) (pss_one (ps_if (PW.pt (pw_and (pt_cmpR op_notIn_seq (pv 4) (pv 3) rfl) (pw_and1 (pt_val (pe_callD D_can_follow (hr.mono (by decide)) rfl (pa_cons (pv 0) (pa_cons (pv 1) (pa_cons (pv 3) (pa_cons (pv 4) pa_nil))))))))) (pss_one (ps_expr (pe_bm PySem.F.plainAttrs_list PySem.F.slot_list_append PySem.F.type_list_append mt_append (pv 2) (pa_cons (pe_op op_cat (pv 3) (pe_lst (pa_cons (pv 4) pa_nil))) pa_nil)))) pss_nil))))))) (pss_one (ps_ret pe_bl))))),?_⟩
    refine ⟨_,rfl,d,kvs,f,rfl,hd,dd,mo.old,fun H1 b s1 hb=>⟨_,rfl,ite2 (fun c=>?_) (fun c=>?_)⟩⟩
    · have c:b=false:=by simpa using c
      subst c
      exact k H1 false s1 ⟨fun q=>(by cases q),fun q=>absurd (hb.mpr q.1) (by simp)⟩
    · have c:b=true:=by simpa using c
      have hold:=hb.mp c
      refine ⟨Nat.zero_le _,fun a0 ha0=>⟨(by show 1≤sizeLine;decide),fun wa hwa=>?_⟩⟩
      have hwa1:H1 wa=none:=(upd_none hwa).1
      have haw:a0≠wa:=(upd_none hwa).2.symm
      have s2:Same H (upd (upd H1 a0 (.lst [])) wa (.lst [.ref a0])):=Same.upd (Same.upd s1 ha0) hwa
      have st:∀ {H' : Hp} {u:HO},Same H H'→Same H (upd H' wa u):=fun {H' u} s b o e=>by
        rw [upd_ne (ne_of_none (s1 b o e) hwa1)]
        exact s b o e
      refine ⟨fun m σ H'=>∃ (x y:Option V) (l:List (Addr × List Nat)),σ=[some (.ref sy),some (.ref d),some (.ref wa),x,y]∧Same H H'∧Wait H' wa news f l∧(∀ F,Ord news f F→F.length=news.length→∃ p∈l,∃ t,F=p.2++t)∧m=wt news.length l∧wt news.length l≤117649,
        ⟨_,none,none,[(a0,[])],rfl,s2,⟨upd_same,fun p hp=>?_⟩,fun F _ _=>⟨_,List.mem_singleton.mpr rfl,F,rfl⟩,rfl,(by have q:=wt_top h6;simpa [wt] using q)⟩,?_⟩
      · have e:p=(a0,[]):=by simpa using hp
        subst e
        exact ⟨by rw [upd_ne haw];exact upd_same,haw,Ord.nil,Nat.zero_le _⟩
      rintro m σ H' ⟨x,y,l,rfl,s3,W,hcomp,rfl,hwt⟩
      have el:(l.map fun q=>V.ref q.1).length=l.length:=List.length_map ..
      refine ⟨_,rfl,wa,_,rfl,.inl (SqL.of W.lst),_,_,rfl,rfl,_,rfl,ite2 (fun c1=>?_) (fun c1=>?_)⟩
      · have c1:(0:Int)<((l.map fun q=>V.ref q.1).length:Int):=of_decide_eq_true c1
        rw [el] at c1
        have hne:l≠[]:=fun z=>by rw [z] at c1;exact absurd c1 (by simp)
        obtain ⟨ini,p,hl⟩ : ∃ ini p,l=ini++[p]:=⟨l.dropLast,l.getLast hne,(List.dropLast_concat_getLast hne).symm⟩
        obtain ⟨a,o⟩:=p
        subst hl
        obtain ⟨pa,paw,pord,ple⟩:=W.at_ (a,o) (by simp)
        have dl:((ini++[(a,o)]).map fun q:Addr × List Nat=>V.ref q.1).dropLast=ini.map fun q=>V.ref q.1:=by
          rw [List.map_append]
          exact List.dropLast_concat
        refine ⟨fun σ' H'=>∃ (x y:Option V) (l2:List (Addr × List Nat)),σ'=[some (.ref sy),some (.ref d),some (.ref wa),x,y]∧Same H H'∧Wait H' wa news f l2∧(∀ F,Ord news f F→F.length=news.length→∃ p∈l2,∃ t,F=p.2++t)∧wt news.length l2<wt news.length (ini++[(a,o)]),?_,?_⟩
        · rintro σ' H'' ⟨x,y,l2,e1,e2,e3,e4,e5⟩
          exact ⟨_,e5,x,y,l2,e1,e2,e3,e4,rfl,Nat.le_trans (Nat.le_of_lt e5) hwt⟩
        refine ⟨_,rfl,.inl ⟨rfl,_,SqL.of W.lst⟩,wa,_,.ref a,rfl,rfl,W.lst,?_,?_⟩
        · rw [List.length_map,List.length_append,List.length_singleton,Nat.add_sub_cancel,List.getElem?_map,List.getElem?_append_right (Nat.le_refl _),Nat.sub_self]
          rfl
        rw [dl]
        have s4:Same H (upd H' wa (.lst (ini.map fun q=>V.ref q.1))):=st s3
        have ha4:(upd H' wa (.lst (ini.map fun q=>V.ref q.1))) a=some (.lst (nats o)):=by rw [upd_ne paw];exact pa
        refine ⟨_,rfl,a,_,rfl,.inl (SqL.of ha4),_,rfl,sy,_,rfl,.inl (SqL.of (s4 _ _ hsy)),rfl,_,rfl,ite2 (fun c2=>?_) (fun c2=>?_)⟩
        · have c2:V.int ((nats o).length:Int)=V.int ((nats news).length:Int):=of_decide_eq_true c2
          have c3:o.length=news.length:=by
            injection c2 with c2
            rw [List.length_map,List.length_map] at c2
            omega
          exact k _ true s4 ⟨fun _=>⟨hold,o,pord,c3⟩,fun _=>rfl⟩
        · have c2:¬ V.int ((nats o).length:Int)=V.int ((nats news).length:Int):=fun z=>c2 (decide_eq_true z)
          have c3:o.length<news.length:=by
            rcases Nat.lt_or_eq_of_le ple with z | z
            · exact z
            · exact absurd (vint (by rw [List.length_map,List.length_map,z])) c2
          refine ⟨_,rfl,sy,_,rfl,.inl (SqL.of (s4 _ _ hsy)),_,rfl,by rw [List.length_map];omega,by rw [List.length_map];omega,
            for_range (n:=((nats news).length:Int).toNat) (fun i σ H''=>∃ (y:Option V) (kids:List (Addr × List Nat)),σ=[some (.ref sy),some (.ref d),some (.ref wa),some (.ref a),y]∧Same H H''∧H'' a=some (.lst (nats o))∧Wait H'' wa news f (ini++kids) ∧
              (∀ ag,ag<i→ag∉o→canFollow news f o ag=true→∃ p∈kids,p.2=o++[ag])∧kids.length≤i∧∀ p∈kids,p.2.length=o.length+1)
            ⟨y,[],rfl,s4,ha4,⟨by rw [upd_same,List.append_nil],fun p hp=>?_⟩,fun ag h=>absurd h (by omega),Nat.le_refl _,fun p hp=>absurd hp (by simp)⟩ ?_ ?_⟩
          · rw [List.append_nil] at hp
            obtain ⟨q1,q2,q3,q4⟩:=W.at_ p (List.mem_append_left _ hp)
            exact ⟨by rw [upd_ne q2];exact q1,q2,q3,q4⟩
          · rintro i σ H5 hi ⟨y,kids,rfl,s5,ha5,W5,hk1,hk2,hk3⟩
            have hi' : i<news.length:=by rw [List.length_map] at hi;omega
            have ei:(0+(i:Int))=((i:Nat):Int):=by omega
            refine ⟨_,rfl,_,rfl,a,_,rfl,.inl (SqL.of ha5),rfl,flat_nats o,_,rfl,?_⟩
            have ein:inV (V.int (0+(i:Int))) (nats o)=decide (i∈o):=by rw [ei];exact in_nats i o
            show if (if true=true then !inV (V.int (0+(i:Int))) (nats o) else _)=true then _ else _
            rw [if_pos rfl,ein]
            by_cases ci:i∈o
            · rw [decide_eq_true ci]
              refine iteF (iteF ⟨_,kids,rfl,s5,ha5,W5,fun ag hag h1 h2=>?_,by omega,hk3⟩)
              by_cases z:ag=i
              · subst z;exact absurd ci h1
              · exact hk1 ag (by omega) h1 h2
            · rw [decide_eq_false ci]
              refine iteT ⟨_,rfl,_,rfl,_,rfl,_,rfl,sy,d,a,news,o,kvs,f,i,(by rw [ei];rfl),s5 _ _ hsy,s5 _ _ hd,dd,mo,h6,ha5,c3,hi',fun H6 s6=>⟨_,rfl,?_⟩⟩
              have at6:∀ p∈ini++kids,H6 p.1=some (.lst (nats p.2))∧p.1≠wa∧Ord news f p.2∧p.2.length≤news.length:=fun p hp=>by
                obtain ⟨q1,q2,q3,q4⟩:=W5.at_ p hp
                exact ⟨s6 _ _ q1,q2,q3,q4⟩
              have hw6:=s6 _ _ W5.lst
              cases hcf:canFollow news f o i with
              | false =>
                refine iteF ⟨_,kids,rfl,s5.trans s6,s6 _ _ ha5,⟨hw6,at6⟩,fun ag hag h1 h2=>?_,by omega,hk3⟩
                by_cases z:ag=i
                · subst z;rw [hcf] at h2;cases h2
                · exact hk1 ag (by omega) h1 h2
              | true =>
                refine iteT ⟨_,rfl,.inl ⟨rfl,_,SqL.of hw6⟩,_,rfl,_,rfl,(by show 1≤sizeLine;decide),fun t1 ht1=>?_⟩
                have s7:Same H6 (upd H6 t1 (.lst [V.int (0+(i:Int))])):=Same.upd (Same.refl _) ht1
                refine ⟨a,t1,_,_,rfl,rfl,s7 _ _ (s6 _ _ ha5),upd_same,(by rw [List.length_map];exact Nat.le_of_lt (small1000 (by show o.length+1≤1000;omega))),fun ne hne=>?_⟩
                rw [snocV o i ei]
                have s8:Same H6 (upd (upd H6 t1 (.lst [V.int (0+(i:Int))])) ne (.lst (nats (o++[i])))):=Same.upd s7 hne
                have hw8:=s8 _ _ hw6
                have hnw:ne≠wa:=fun z=>by
                  rw [z] at hne
                  rw [s7 _ _ hw6] at hne
                  cases hne
                have klen:(ini++kids).length≤200000:=by
                  have q1:=wt_len news.length (ini++[(a,o)])
                  rw [List.length_append] at q1 ⊢
                  omega
                refine ⟨wa,_,_,rfl,rfl,hw8,?_,?_⟩
                · rw [List.length_map]
                  exact Nat.lt_of_le_of_lt klen (by decide)
                refine ⟨_,kids++[(ne,o++[i])],rfl,st ((s5.trans s6).trans s8),?_,⟨?_,fun p hp=>?_⟩,fun ag hag h1 h2=>?_,?_,fun p hp=>?_⟩
                · rw [upd_ne paw];exact s8 _ _ (s6 _ _ ha5)
                · rw [upd_same,← List.append_assoc,← snoc_ref]
                · rw [← List.append_assoc] at hp
                  rcases List.mem_append.mp hp with z | z
                  · obtain ⟨q1,q2,q3,q4⟩:=at6 p z
                    exact ⟨by rw [upd_ne q2];exact s8 _ _ q1,q2,q3,q4⟩
                  · have e:p=(ne,o++[i]):=by simpa using z
                    subst e
                    refine ⟨by rw [upd_ne hnw];exact upd_same,hnw,pord.snoc hi' ci hcf,by rw [List.length_append,List.length_singleton];omega⟩
                · by_cases z:ag=i
                  · subst z
                    exact ⟨_,List.mem_append_right _ (List.mem_singleton.mpr rfl),rfl⟩
                  · obtain ⟨p,hp,e⟩:=hk1 ag (by omega) h1 h2
                    exact ⟨p,List.mem_append_left _ hp,e⟩
                · rw [List.length_append,List.length_singleton];omega
                · rcases List.mem_append.mp hp with z | z
                  · exact hk3 p z
                  · have e:p=(ne,o++[i]):=by simpa using z
                    subst e
                    rw [List.length_append,List.length_singleton]
          · rintro σ H5 ⟨y,kids,rfl,s5,ha5,W5,hk1,hk2,hk3⟩
            refine ⟨_,_,ini++kids,rfl,s5,W5,fun F hF hFl=>?_,?_⟩
            · obtain ⟨p,hp,t,e⟩:=hcomp F hF hFl
              rcases List.mem_append.mp hp with z | z
              · exact ⟨p,List.mem_append_left _ z,t,e⟩
              · have ep:p=(a,o):=by simpa using z
                subst ep
                cases t with
                | nil =>
                  have e2:F.length=o.length:=by rw [e,List.append_nil]
                  omega
                | cons ag t =>
                  subst e
                  obtain ⟨n1,n2,n3⟩:=hF.next
                  obtain ⟨p2,hp2,e2⟩:=hk1 ag (by rw [List.length_map];omega) n2 n3
                  exact ⟨p2,List.mem_append_right _ hp2,t,by rw [e2,List.append_assoc];rfl⟩
            · rw [wt_append,wt_append,wt_kids _ (o.length+1) kids hk3]
              have e:wt news.length [(a,o)]=(news.length+1) ^ (news.length - o.length):=by simp [wt]
              rw [e]
              exact Nat.add_lt_add_left (wt_less c3 (by rw [List.length_map] at hk2;omega)) _
      · have c1:¬ (0:Int)<((l.map fun q=>V.ref q.1).length:Int):=fun z=>c1 (decide_eq_true z)
        rw [el] at c1
        have hl0:l=[]:=List.length_eq_zero_iff.mp (by omega)
        subst hl0
        refine k H' false s3 ⟨fun q=>(by cases q),fun q=>?_⟩
        obtain ⟨F,hF,hFl⟩:=q.2
        obtain ⟨p,hp,_⟩:=hcomp F hF hFl
        exact absurd hp (by simp)
end
theorem mem_flat {ws:List (Nat × Nat)} {x:Nat}:x∈flat ws↔∃ u∈ws,x=u.1∨x=u.2:=by
  unfold flat
  rw [List.mem_flatMap]
  constructor
  · rintro ⟨u,h1,h2⟩
    simp at h2
    exact ⟨u,h1,h2⟩
  · rintro ⟨u,h1,h2⟩
    exact ⟨u,h1,by simp;exact h2⟩
theorem otherW_mem:∀ {ws:List (Nat × Nat)} {x y:Nat},otherW ws x=some y→∃ u∈ws,(u.1=x∧u.2=y)∨(u.2=x∧u.1=y)
  | [],x,y,h=>by cases h
  | v::ws,x,y,h=>by
    unfold otherW at h
    rw [List.findSome?_cons] at h
    by_cases h1:v.1=x
    · rw [if_pos h1] at h
      exact ⟨v,List.mem_cons_self,.inl ⟨h1,Option.some.inj h⟩⟩
    · rw [if_neg h1] at h
      by_cases h2:v.2=x
      · rw [if_pos h2] at h
        exact ⟨v,List.mem_cons_self,.inr ⟨h2,Option.some.inj h⟩⟩
      · rw [if_neg h2] at h
        obtain ⟨u,hu,q⟩:=otherW_mem (ws:=ws) h
        exact ⟨u,List.mem_cons_of_mem _ hu,q⟩
theorem otherW_of:∀ {ws:List (Nat × Nat)} {x y:Nat},(flat ws).Nodup→(∃ u∈ws,(u.1=x∧u.2=y)∨(u.2=x∧u.1=y))→otherW ws x=some y
  | [],x,y,_,h=>by
    obtain ⟨u,hu,_⟩:=h
    exact absurd hu (by simp)
  | v::ws,x,y,nd,h=>by
    rw [flat_cons] at nd
    obtain ⟨n1,nd2⟩:=List.nodup_cons.mp nd
    obtain ⟨n2,nd3⟩:=List.nodup_cons.mp nd2
    have n12:v.1≠v.2:=fun z=>n1 (by rw [z];exact List.mem_cons_self)
    obtain ⟨u,hu,q⟩:=h
    unfold otherW
    rw [List.findSome?_cons]
    rcases List.mem_cons.mp hu with z | z
    · subst z
      rcases q with ⟨q1,q2⟩ | ⟨q1,q2⟩
      · rw [if_pos q1,q2]
      · rw [if_neg (fun z=>n12 (z.trans q1.symm)),if_pos q1,q2]
    · have hx:x∈flat ws:=mem_flat.mpr ⟨u,z,by rcases q with q | q;exact .inl q.1.symm;exact .inr q.1.symm⟩
      rw [if_neg (fun e=>n1 (by rw [e];exact List.mem_cons_of_mem _ hx)),if_neg (fun e=>n2 (by rw [e];exact hx))]
      exact otherW_of nd3 ⟨u,z,q⟩
theorem otherW_inv {ws:List (Nat × Nat)} {x y:Nat} (nd:(flat ws).Nodup) (h:otherW ws x=some y):otherW ws y=some x:=by
  obtain ⟨u,hu,q⟩:=otherW_mem h
  exact otherW_of nd ⟨u,hu,by rcases q with q | q;exact .inr ⟨q.2,q.1⟩;exact .inl ⟨q.2,q.1⟩⟩
theorem otherW_some {ws:List (Nat × Nat)} {x:Nat} (nd:(flat ws).Nodup):(otherW ws x).isSome=true↔x∈flat ws:=by
  constructor
  · intro h
    obtain ⟨y,hy⟩:=Option.isSome_iff_exists.mp h
    obtain ⟨u,hu,q⟩:=otherW_mem hy
    exact mem_flat.mpr ⟨u,hu,by rcases q with q | q;exact .inl q.1.symm;exact .inr q.1.symm⟩
  · intro h
    obtain ⟨u,hu,q⟩:=mem_flat.mp h
    rcases q with q | q
    · rw [otherW_of nd ⟨u,hu,.inl ⟨q.symm,rfl⟩⟩];rfl
    · rw [otherW_of nd ⟨u,hu,.inr ⟨q.symm,rfl⟩⟩];rfl
theorem wired_iff {R:Nets.Rule} {x y:Nat} (nd:(flat R.wires).Nodup):R.wired x y=true↔otherW R.wires x=some y:=by
  unfold Nets.Rule.wired
  rw [List.any_eq_true]
  constructor
  · rintro ⟨u,hu,q⟩
    rw [Bool.or_eq_true,Bool.and_eq_true,Bool.and_eq_true,beq_iff_eq,beq_iff_eq,beq_iff_eq,beq_iff_eq] at q
    exact otherW_of nd ⟨u,hu,by rcases q with q | q;exact .inl q;exact .inr ⟨q.2,q.1⟩⟩
  · intro h
    obtain ⟨u,hu,q⟩:=otherW_mem h
    refine ⟨u,hu,?_⟩
    rw [Bool.or_eq_true,Bool.and_eq_true,Bool.and_eq_true,beq_iff_eq,beq_iff_eq,beq_iff_eq,beq_iff_eq]
    rcases q with q | q
    · exact .inl q
    · exact .inr ⟨q.2,q.1⟩
def Good (news:List Nat) (k:Nat) (g:List Nat):Prop:=∀ i a,k≤i→g[i]?=some a→a<news.length∧a∉g.take i∧news.getD a 0=news.getD i 0
theorem mem_namings (R:Nets.Rule):∀ (n:Nat) (f g:List Nat),g∈Nets.namings R n f↔(∃ h,g=f++h∧h.length=n)∧Good R.news f.length g
  | 0,f,g=>by
    unfold Nets.namings
    constructor
    · intro h
      have e:g=f:=by simpa using h
      subst e
      exact ⟨⟨[],by simp,rfl⟩,fun i a hi e=>absurd (List.getElem?_eq_some_iff.mp e).1 (by omega)⟩
    · rintro ⟨⟨h,e,hl⟩,_⟩
      have:h=[]:=List.length_eq_zero_iff.mp hl
      subst this
      simp [e]
  | n+1,f,g=>by
    unfold Nets.namings
    rw [List.mem_flatMap]
    constructor
    · rintro ⟨j,hj,hg⟩
      have hj:=List.mem_range.mp hj
      by_cases c:f.contains j=true∨R.news.getD j 0≠R.news.getD f.length 0
      · rw [if_pos c] at hg
        exact absurd hg (by simp)
      · rw [if_neg c] at hg
        have c1:j∉f:=fun z=>c (.inl (List.contains_iff_mem.mpr z))
        have c2:R.news.getD j 0=R.news.getD f.length 0:=Decidable.byContradiction fun z=>c (.inr z)
        obtain ⟨⟨h,e,hl⟩,gd⟩:=(mem_namings R n (f++[j]) g).mp hg
        have e2:g=f++(j::h):=by rw [e,List.append_assoc];rfl
        refine ⟨⟨j::h,e2,by rw [List.length_cons,hl]⟩,fun i a hi ea=>?_⟩
        by_cases z:i=f.length
        · subst z
          have ea2:(f++j::h)[f.length]?=some j:=by rw [List.getElem?_append_right (Nat.le_refl _),Nat.sub_self];rfl
          rw [e2,ea2] at ea
          have:j=a:=Option.some.inj ea
          subst this
          refine ⟨hj,?_,c2⟩
          rw [e2,List.take_append_of_le_length (Nat.le_refl _),List.take_length]
          exact c1
        · exact gd i a (by rw [List.length_append,List.length_singleton];omega) ea
    · rintro ⟨⟨h,e,hl⟩,gd⟩
      cases h with
      | nil=>cases hl
      | cons j h =>
        have ea:g[f.length]?=some j:=by rw [e,List.getElem?_append_right (Nat.le_refl _),Nat.sub_self];rfl
        obtain ⟨g1,g2,g3⟩:=gd f.length j (Nat.le_refl _) ea
        rw [e,List.take_append_of_le_length (Nat.le_refl _),List.take_length] at g2
        refine ⟨j,List.mem_range.mpr g1,?_⟩
        rw [if_neg (by
          rintro (z | z)
          · exact g2 (List.contains_iff_mem.mp z)
          · exact z g3)]
        refine (mem_namings R n (f++[j]) g).mpr ⟨⟨h,by rw [e,List.append_assoc];rfl,by simpa using hl⟩,fun i a hi ea=>gd i a (by rw [List.length_append,List.length_singleton] at hi;omega) ea⟩
theorem even_def (R:Nets.Rule):R.even=true↔∃ F:List Nat,F.length=R.news.length∧Good R.news 0 F∧∀ u∈R.wires,R.wired (Nets.exchanged F u.1) (Nets.exchanged F u.2)=true:=by
  unfold Nets.Rule.even
  rw [List.any_eq_true]
  constructor
  · rintro ⟨F,hF,hw⟩
    obtain ⟨⟨h,e,hl⟩,gd⟩:=(mem_namings R _ _ _).mp hF
    refine ⟨F,by rw [e,List.nil_append,hl],gd,List.all_eq_true.mp hw⟩
  · rintro ⟨F,hl,gd,hw⟩
    exact ⟨F,(mem_namings R _ _ _).mpr ⟨⟨F,rfl,hl⟩,gd⟩,List.all_eq_true.mpr hw⟩
theorem exch_old {F:List Nat} {x:Nat} (h:64≤x):Nets.exchanged F x=exN x:=by
  unfold Nets.exchanged exN
  rw [if_neg (by omega)]
  by_cases c:80≤x
  · rw [if_neg (by omega),if_pos c]
  · rw [if_pos (by omega),if_neg c]
theorem exch_new {F:List Nat} {i j a:Nat} (hi:i<16) (hj:j<4) (ha:F[i]?=some a):Nets.exchanged F (4*i+j)=4*a+j:=by
  unfold Nets.exchanged
  rw [if_pos (by omega),show (4*i+j) / 4=i by omega,show (4*i+j)%4=j by omega,List.getD_eq_getElem?_getD,ha]
  rfl
theorem exch_take {F:List Nat} {m k:Nat} (h:placed m k=true):Nets.exchanged (F.take k) m=Nets.exchanged F m:=by
  unfold placed at h
  by_cases c:64≤m
  · rw [exch_old c,exch_old c]
  · have h2:m / 4<k:=by
      rw [Bool.or_eq_true] at h
      rcases h with z | z
      · exact absurd (of_decide_eq_true z) c
      · exact of_decide_eq_true z
    unfold Nets.exchanged
    rw [if_pos (by omega),if_pos (by omega),List.getD_eq_getElem?_getD,List.getD_eq_getElem?_getD,List.getElem?_take_of_lt h2]
theorem even_iff {R:Nets.Rule} (nd:(flat R.wires).Nodup) (h6:R.news.length≤6) (hlt:∀ x∈flat R.wires,x<64→x / 4<R.news.length) :
    R.even=true↔OldOk R.other∧∃ F,Ord R.news R.other F∧F.length=R.news.length:=by
  rw [even_def,other_eq]
  have mem:∀ x y,otherW R.wires x=some y→x∈flat R.wires:=fun x y h=>(otherW_some nd).mp (by rw [h];rfl)
  constructor
  · rintro ⟨F,hl,gd,hw⟩
    have go:∀ x y,otherW R.wires x=some y→otherW R.wires (Nets.exchanged F x)=some (Nets.exchanged F y):=fun x y h=>by
      obtain ⟨u,hu,q⟩:=otherW_mem h
      have z:=(wired_iff nd).mp (hw u hu)
      rcases q with ⟨q1,q2⟩ | ⟨q1,q2⟩
      · rw [q1,q2] at z;exact z
      · rw [q1,q2] at z;exact otherW_inv nd z
    refine ⟨fun n m h h1 h2=>?_,F,fun i a ha=>?_,hl⟩
    · have z:=go n m h
      rw [exch_old h1,exch_old h2] at z
      exact z
    · obtain ⟨g1,g2,g3⟩:=gd i a (Nat.zero_le _) ha
      have hil:i<F.length:=(List.getElem?_eq_some_iff.mp ha).1
      have tl:(F.take i).length=i:=by rw [List.length_take];omega
      refine ⟨g1,g2,?_⟩
      unfold canFollow
      rw [Bool.and_eq_true,tl]
      refine ⟨decide_eq_true g3.symm,List.all_eq_true.mpr fun j hj=>?_⟩
      have hj:=List.mem_range.mp hj
      cases hm:otherW R.wires (4*i+j) with
      | none=>rfl
      | some m =>
        show (if placed m (i+1)=true then decide (otherW R.wires (4*a+j)=some (Nets.exchanged (F.take i++[a]) m)) else true)=true
        cases hp:placed m (i+1) with
        | false=>rfl
        | true =>
          rw [if_pos rfl]
          have z:=go _ _ hm
          rw [exch_new (by omega) hj ha] at z
          rw [← take_snoc ha,exch_take hp]
          exact decide_eq_true z
  · rintro ⟨hold,F,ho,hl⟩
    refine ⟨F,hl,fun i a _ ha=>?_,fun u hu=>?_⟩
    · obtain ⟨o1,o2,o3⟩:=ho i a ha
      have hil:i<F.length:=(List.getElem?_eq_some_iff.mp ha).1
      have tl:(F.take i).length=i:=by rw [List.length_take];omega
      unfold canFollow at o3
      rw [Bool.and_eq_true,tl] at o3
      exact ⟨o1,o2,(of_decide_eq_true o3.1).symm⟩
    ·
      have side:∀ x y,otherW R.wires x=some y→x<64→placed y (x / 4+1)=true→otherW R.wires (Nets.exchanged F x)=some (Nets.exchanged F y):=fun x y h hx hp=>by
        have hxl:=hlt x (mem x y h) hx
        have ha:=List.getElem?_eq_getElem (l:=F) (i:=x / 4) (by omega)
        obtain ⟨o1,o2,o3⟩:=ho (x / 4) _ ha
        have tl:(F.take (x / 4)).length=x / 4:=by rw [List.length_take];omega
        unfold canFollow at o3
        rw [Bool.and_eq_true,tl] at o3
        have q:=List.all_eq_true.mp o3.2 (x%4) (List.mem_range.mpr (by omega))
        rw [show 4*(x / 4)+x%4=x by omega,h] at q
        have q:(if placed y (x / 4+1)=true then decide (otherW R.wires (4*F[x / 4]+x%4)=some (Nets.exchanged (F.take (x / 4)++[F[x / 4]]) y)) else true)=true:=q
        rw [hp,if_pos rfl,← take_snoc ha,exch_take hp] at q
        have q:=of_decide_eq_true q
        have e:=exch_new (F:=F) (i:=x / 4) (j:=x%4) (by omega) (by omega) ha
        rw [show 4*(x / 4)+x%4=x by omega] at e
        rw [e]
        exact q
      have h1:otherW R.wires u.1=some u.2:=otherW_of nd ⟨u,hu,.inl ⟨rfl,rfl⟩⟩
      have h2:otherW R.wires u.2=some u.1:=otherW_inv nd h1
      rw [wired_iff nd]
      by_cases c1:64≤u.1
      · by_cases c2:64≤u.2
        · rw [exch_old c1,exch_old c2]
          exact hold _ _ h1 c1 c2
        · refine otherW_inv nd (side _ _ h2 (by omega) ?_)
          unfold placed
          rw [decide_eq_true c1];rfl
      · by_cases c2:64≤u.2
        · refine side _ _ h1 (by omega) ?_
          unfold placed
          rw [decide_eq_true c2];rfl
        · by_cases c3:u.2 / 4≤u.1 / 4
          · refine side _ _ h1 (by omega) ?_
            unfold placed
            rw [Bool.or_eq_true]
            exact .inr (decide_eq_true (by omega))
          · refine otherW_inv nd (side _ _ h2 (by omega) ?_)
            unfold placed
            rw [Bool.or_eq_true]
            exact .inr (decide_eq_true (by omega))
theorem mem_newPl {r:Nets.Rec} (ok:RecOk r) (news:List Nat) (i j:Nat) (hj:j<4):4*i+j∈newPl r news↔∃ s,news[i]?=some s∧j≤r.of s:=by
  unfold newPl
  rw [List.mem_flatMap]
  constructor
  · rintro ⟨x,hx,h⟩
    obtain ⟨q,hq,e⟩:=List.mem_map.mp h
    have hq:=List.mem_range.mp hq
    have os:=of_le ok x.1
    have hx2:=List.mem_zipIdx_iff_getElem?.mp hx
    have e1:x.2=i:=by omega
    rw [e1] at hx2
    exact ⟨x.1,hx2,by omega⟩
  · rintro ⟨s,hs,hle⟩
    exact ⟨(s,i),List.mem_zipIdx_iff_getElem?.mpr hs,List.mem_map.mpr ⟨j,List.mem_range.mpr (by show j<r.of s+1;omega),rfl⟩⟩
theorem newPl_lt {r:Nets.Rec} (ok:RecOk r) {news:List Nat} {x:Nat} (h:x∈newPl r news):x<4*news.length:=by
  have q:=(newPl_sorted ok news news.length (Nat.le_refl _)).2
  rw [List.take_length] at q
  exact q x h
structure Made (r:Nets.Rec) (R:Nets.Rule):Prop where
  perm:(needed r R.s R.t R.news).Perm (flat R.wires)
  nd:(flat R.wires).Nodup
  n6:R.news.length≤6
  sym:∀ s∈R.news,s<r.arity.length
theorem made_of {r:Nets.Rec} (ok:RecOk r) {R:Nets.Rule} (h:r.wellMade R=true):Made r R:=by
  unfold Nets.Rec.wellMade at h
  rw [Bool.and_eq_true,Bool.and_eq_true,Bool.and_eq_true] at h
  obtain ⟨h1,h2,h3,h4⟩:=h
  have h6:R.news.length≤6:=of_decide_eq_true h1
  have srt:=needed_sorted ok R.s R.t h6
  have nd:(needed r R.s R.t R.news).Nodup:=srt.imp fun h=>Nat.ne_of_lt h
  have p:(needed r R.s R.t R.news).Perm (flat R.wires):=perm_of_sub _ _ nd (fun x hx=>List.contains_iff_mem.mp (List.all_eq_true.mp h4 x hx)) (eq_of_beq h3)
  exact ⟨p,p.nodup_iff.mp nd,h6,fun s hs=>of_decide_eq_true (List.all_eq_true.mp h2 s hs)⟩
theorem Made.lt {r:Nets.Rec} (ok:RecOk r) {R:Nets.Rule} (m:Made r R):∀ x∈flat R.wires,x<64→x / 4<R.news.length:=fun x hx hlt=>by
  have hx:=m.perm.mem_iff.mpr hx
  unfold needed at hx
  rcases List.mem_append.mp hx with z | z
  · have:=newPl_lt ok z
    omega
  · rcases List.mem_append.mp z with z | z
    · obtain ⟨j,_,e⟩:=List.mem_map.mp z
      omega
    · obtain ⟨j,_,e⟩:=List.mem_map.mp z
      omega
theorem Made.mates {r:Nets.Rec} (ok:RecOk r) {R:Nets.Rule} (m:Made r R) (hst:R.s=R.t):MatesOk R.news (otherW R.wires):=by
  have h6:=m.n6
  have small:∀ x,x∈newPl r R.news→x<64:=fun x hx=>by
    have:=newPl_lt ok hx
    omega
  refine ⟨fun x y h=>otherW_inv m.nd h,fun x y h hx=>m.lt ok x ((otherW_some m.nd).mp (by rw [h];rfl)) hx,fun i i' j hj hi hi' e h=>?_,fun x hx h=>?_⟩
  · rw [otherW_some m.nd,← m.perm.mem_iff] at h ⊢
    unfold needed at h ⊢
    rcases List.mem_append.mp h with z | z
    · refine List.mem_append_left _ ?_
      rw [mem_newPl ok _ _ _ hj] at z ⊢
      obtain ⟨s,hs,hle⟩:=z
      rw [List.getD_eq_getElem?_getD,List.getD_eq_getElem?_getD,hs,List.getElem?_eq_getElem hi'] at e
      have e:s=R.news[i']:=e
      exact ⟨_,List.getElem?_eq_getElem hi',by rw [← e];exact hle⟩
    · exfalso
      rcases List.mem_append.mp z with z | z
      · obtain ⟨q,_,e⟩:=List.mem_map.mp z
        omega
      · obtain ⟨q,_,e⟩:=List.mem_map.mp z
        omega
  · rw [otherW_some m.nd,← m.perm.mem_iff] at h ⊢
    unfold needed at h ⊢
    rcases List.mem_append.mp h with z | z
    · have:=small x z
      omega
    · refine List.mem_append_right _ ?_
      have os:=of_le ok R.s
      unfold exN
      rcases List.mem_append.mp z with z | z
      · obtain ⟨q,hq,e⟩:=List.mem_map.mp z
        have hq2:=List.mem_range.mp hq
        rw [if_neg (by omega)]
        refine List.mem_append_right _ (List.mem_map.mpr ⟨q,List.mem_range.mpr (by rw [← hst];exact hq2),by omega⟩)
      · obtain ⟨q,hq,e⟩:=List.mem_map.mp z
        have hq2:=List.mem_range.mp hq
        rw [if_pos (by omega)]
        refine List.mem_append_left _ (List.mem_map.mpr ⟨q,List.mem_range.mpr (by rw [hst];exact hq2),by omega⟩)
theorem rulesK_snoc {l:List RuleAd} {rs:List Nets.Rule} (h:l.length=rs.length) (a:RuleAd) (R:Nets.Rule):rulesK (l++[a]) (rs++[R])=rulesK l rs++[(keyOf R.s R.t,V.ref a.q)]:=by
  unfold rulesK
  rw [List.zip_append h,List.map_append]
  rfl
theorem rulesK_len {l:List RuleAd} {rs:List Nets.Rule} (h:l.length=rs.length):(rulesK l rs).length=rs.length:=by
  unfold rulesK
  rw [List.length_map,List.length_zip,h,Nat.min_self]
theorem RecAt.addRule {C CR:Addr} {H H' : Hp} {A:RecAd} {r:Nets.Rec} (h:RecAt C CR H A r) {a:RuleAd} {R:Nets.Rule} (k:∀ b,b≠A.ru→∀ o,H b=some o→H' b=some o)
    (hru:H' A.ru=some (.dT (rulesK A.rl r.rules++[(keyOf R.s R.t,V.ref a.q)]))) (hR:RuleAt CR H' a R) (fr:∀ b∈a.fp,H b=none):RecAt C CR H' { A with rl:=A.rl++[a] } ⟨r.arity,r.rules++[R],r.sym,r.link⟩:=by
  obtain ⟨ka,ea,da⟩:=h.ag
  obtain ⟨kj,ej,dj⟩:=h.jo
  have ap:=h.ap
  refine ⟨⟨ap.pm,ap.pr,ap.pa,ap.pj,ap.mr,ap.ma,ap.mj,ap.ra,ap.rj,ap.aj,fun a' ha' b hb=>?_⟩,k _ ap.pr _ h.obj,k _ ap.mr _ h.mp,⟨ka,k _ ap.ra.symm _ ea,da⟩,⟨kj,k _ ap.rj.symm _ ej,dj⟩,?_,?_,fun i a' R' h1 h2=>?_⟩
  · rcases List.mem_append.mp ha' with z | z
    · exact ap.rl a' z b hb
    · have e:a'=a:=by simpa using z
      subst e
      have n:=fr b hb
      exact ⟨fun z=>(by rw [z,h.obj] at n;cases n),fun z=>(by rw [z,h.mp] at n;cases n),fun z=>(by rw [z,h.ru] at n;cases n),fun z=>(by rw [z,ea] at n;cases n),fun z=>(by rw [z,ej] at n;cases n)⟩
  · show H' A.ru=some (.dT (rulesK (A.rl++[a]) (r.rules++[R])))
    rw [hru,rulesK_snoc h.rlen]
  · show (A.rl++[a]).length=(r.rules++[R]).length
    rw [List.length_append,List.length_append,h.rlen];rfl
  · have h1:(A.rl++[a])[i]?=some a':=h1
    have h2:(r.rules++[R])[i]?=some R':=h2
    by_cases c:i<A.rl.length
    · rw [List.getElem?_append_left c] at h1
      rw [List.getElem?_append_left (by rw [← h.rlen];exact c)] at h2
      exact (h.rule i a' R' h1 h2).frame fun b hb=>k b (ap.rl a' (List.mem_of_getElem? h1) b hb).2.2.1
    · have hl:=(List.getElem?_eq_some_iff.mp h1).1
      rw [List.length_append,List.length_singleton] at hl
      have ei:i=A.rl.length:=by omega
      subst ei
      rw [List.getElem?_append_right (Nat.le_refl _),Nat.sub_self] at h1
      rw [h.rlen,List.getElem?_append_right (Nat.le_refl _),Nat.sub_self] at h2
      have e1:a=a':=Option.some.inj h1
      have e2:R=R':=Option.some.inj h2
      subst e1 e2
      exact hR
section
variable {P:Program} {w:World} {K:PySem.W.Frag} {mg:Str→Option Value} {base:Heap} {C CR:Addr}
def spAddRule (C CR:Addr):Sp:=fun vs H Q _=>∃ (A:RecAd) (r:Nets.Rec) (s t:Nat) (a:Addr) (row:List Nat),vs=[.ref A.p,nV s,nV t,.ref a]∧RecAt C CR H A r∧RecOk r∧r.rules.length≤1000∧H a=some (.lst (nats row))∧Ends_ C CR H A r (.rule 0 s t row) Q
theorem does_rule (r:Nets.Rec) (s t:Nat) (b:List Nat):Nets.does r (.rule 0 s t b)=if r.arity.length≤s∨r.arity.length≤t then (r,Nets.says (-4)) else if (r.ruleFor s t).isSome=true then (r,Nets.says (-5)) else (match Nets.bodyOf s t b with
    | none=>(r,Nets.says (-6))
    | some R=>if r.wellMade R=false then (r,Nets.says (-6)) else if s=t∧R.even=false then (r,Nets.says (-7)) else (⟨r.arity,r.rules++[R],r.sym,r.link⟩,Nets.says 0)):=rfl
theorem sc_add_rule:FnScope ["record", "s", "t", "row", "symbols", "mates"] ["record", "s", "t", "row"] (defScope s_add_rule):=⟨rfl,rfl,rfl,by decide +kernel,rfl,by decide +kernel,by decide +kernel⟩
theorem ok_add_rule {f:Addr} {fd:FuncData} (F:Fun K "add_rule" "add_rule" s_add_rule f fd) (T:Txt K mg C CR) (D_is_symbol:Df P w K mg base "is_symbol" ["record", "s"] 1 (spIsSymbol C CR)) (D_rule_key:Df P w K mg base "rule_key" ["s", "t"] 1 spRuleKey)
    (D_is_rule_row:Df P w K mg base "is_rule_row" ["record", "s", "t", "row"] 2 (spIsRuleRow C CR)) (D_new_symbols:Df P w K mg base "new_symbols" ["row"] 1 spNewSymbols) (D_wire_places:Df P w K mg base "wire_places" ["row"] 1 spWirePlaces)
    (D_find_mates:Df P w K mg base "find_mates" ["places"] 1 spFindMates) (D_is_even:Df P w K mg base "is_even" ["symbols", "mates"] 4 spIsEven) (D_Rule:Dm P w K mg base "Rule" CR ["self", "first", "symbols", "mates"] 1 (spRuleInit CR)) :
    FnOk P w K mg base CX0 5 f fd ["record", "s", "t", "row"] (spAddRule C CR):=by
  refine F.ok sc_add_rule (fun vs H Q E h=>?_) (fun cdv A0 outer s0 H vs Q E hr h=>?_)
  · obtain ⟨A,r,s,t,a,row,rfl,_⟩:=h
    rfl
  · obtain ⟨A,r,s,t,a,row,rfl,h1,ok,h1000,ha,k⟩:=h
    have nd:=sc_add_rule.nd
    have hu:=hu_of hr
    have de:=does_rule r s t row
    have no4:(r.arity.length≤s∨r.arity.length≤t)→∀ p,H p=none→Q (.ref p) (upd H p (.lst [.int (-4)])):=fun z p hp=>by
      rw [if_pos z] at de
      exact ends_same (a:=Nets.says (-4)) h1 k de (Same.refl _) hp
    refine ⟨_,(pss_cons (ps_if (PW.pt (pw_or (pt_not (pt_val (pe_callD D_is_symbol (hr.mono (by decide)) rfl (pa_cons (pv 0) (pa_cons (pv 1) pa_nil))))) (pw_or1 (pt_not (pt_val (pe_callD D_is_symbol (hr.mono (by decide)) rfl (pa_cons (pv 0) (pa_cons (pv 2) pa_nil)))))))) (pss_one (ps_ret (pe_lst (pa_cons (pe_glV rfl T.c_NOT_THERE) pa_nil)))) pss_nil) (pss_cons (ps_if (pt_cmp (pc_din hu (pe_callD D_rule_key (hr.mono (by decide)) rfl (pa_cons (pv 1) (pa_cons (pv 2) pa_nil))) (pe_fld (pv 0) rfl))) (pss_one (ps_ret (pe_lst (pa_cons (pe_glV rfl T.c_TAKEN) pa_nil)))) pss_nil) (pss_cons (ps_if (pt_not (pt_val (pe_callD D_is_rule_row (hr.mono (by decide)) rfl (pa_cons (pv 0) (pa_cons (pv 1) (pa_cons (pv 2) (pa_cons (pv 3) pa_nil))))))) (pss_one (ps_ret (pe_lst (pa_cons (pe_glV rfl T.c_NO_RULE_ROW) pa_nil)))) pss_nil) (pss_cons (ps_set (i:=4) nd rfl (Or.inl rfl) (pe_callD D_new_symbols (hr.mono (by decide)) rfl (pa_cons (pv 3) pa_nil))) (pss_cons (ps_set (i:=5) nd rfl (Or.inl rfl) (pe_callD D_find_mates (hr.mono (by decide)) rfl (pa_cons (pe_callD D_wire_places (hr.mono (by decide)) rfl (pa_cons (pv 3) pa_nil)) pa_nil))) (pss_cons (ps_if (PW.pt (pw_and (pt_cmpR op_eq (pv 1) (pv 2) (nomark _)) (pw_and1 (pt_not (pt_val (pe_callD D_is_even (hr.mono (by decide)) rfl (pa_cons (pv 4) (pa_cons (pv 5) pa_nil)))))))) (pss_one (ps_ret (pe_lst (pa_cons (pe_glV rfl T.c_UNEVEN) pa_nil)))) pss_nil) (pss_cons (ps_dput hu (pe_fld (pv 0) rfl) (pe_callD D_rule_key (hr.mono (by decide)) rfl (pa_cons (pv 1) (pa_cons (pv 2) pa_nil))) (pe_makeA D_Rule (hr.mono (by decide)) rfl (pa_cons (pv 1) (pa_cons (pv 4) (pa_cons (pv 5) pa_nil)))) rfl) (pss_one (ps_ret (pe_lst (pa_cons pe_int pa_nil))))))))))),?_⟩
    refine ⟨_,rfl,_,rfl,A,r,(s:Int),rfl,h1,_,rfl,ite2 (fun c1=>?_) (fun c1=>?_)⟩
    · have c1:¬ ((s:Int)<r.arity.length):=by simpa using c1
      exact iteT ⟨(by show 1≤sizeLine;decide),no4 (.inl (by omega))⟩
    · have c1:(s:Int)<r.arity.length:=by simpa using c1
      refine ⟨_,rfl,_,rfl,A,r,(t:Int),rfl,h1,_,rfl,ite2 (fun c2=>?_) (fun c2=>?_)⟩
      · have c2:¬ ((t:Int)<r.arity.length):=by simpa using c2
        exact ⟨(by show 1≤sizeLine;decide),no4 (.inr (by omega))⟩
      · have c2:(t:Int)<r.arity.length:=by simpa using c2
        have hs:s<r.arity.length:=by omega
        have ht:t<r.arity.length:=by omega
        rw [if_neg (by omega)] at de
        refine ⟨_,rfl,_,rfl,s,t,rfl,fun p1 hp1=>?_⟩
        have s1:Same H (upd H p1 (.tup ((keyOf s t).map kV))):=Same.upd (Same.refl _) hp1
        have h2:=h1.same s1
        refine ⟨_,rfl,A.p,C,A.dx,_,_,rfl,h2.obj,T.cl,T.nRules,recF_rules A,A.ru,_,rfl,DGet.t h2.ru upd_same,_,rfl,?_⟩
        rcases h1.look s t with ⟨q1,q2⟩ | ⟨R,i,b,q1,_,_,q2⟩
        · rw [q2]
          rw [q1,if_neg (by simp)] at de
          refine iteF ?_
          refine ⟨_,rfl,_,rfl,_,rfl,_,rfl,A,r,s,t,a,row,rfl,h2,ok,hs,ht,s1 _ _ ha,fun H3 s3=>⟨_,rfl,?_⟩⟩
          have sH3:=s1.trans s3
          cases hrow:rowOk r s t row with
          | false =>
            refine iteT ⟨(by show 1≤sizeLine;decide),fun p hp=>?_⟩
            refine ends_same (a:=Nets.says (-6)) h1 k ?_ sH3 hp
            rw [de]
            unfold rowOk at hrow
            cases hb:Nets.bodyOf s t row with
            | none=>rfl
            | some R =>
              rw [hb] at hrow
              have hrow:r.wellMade R=false:=hrow
              show (if r.wellMade R=false then _ else _)=_
              rw [if_pos hrow]
          | true =>
            obtain ⟨kk,l,rfl⟩ : ∃ kk l,row=kk::l:=by
              cases row with
              | nil=>cases hrow
              | cons kk l=>exact ⟨kk,l,rfl⟩
            have hk6:kk≤6:=Decidable.byContradiction fun z=>by rw [row_bad (.inl (by omega))] at hrow;cases hrow
            have hkl:kk≤l.length:=Decidable.byContradiction fun z=>by rw [row_bad (.inr (by omega))] at hrow;cases hrow
            have hbody:=body_good (s:=s) (t:=t) hk6 hkl
            have hrow':=hrow
            unfold rowOk at hrow'
            rw [hbody] at hrow' de
            cases htw:Nets.twos (l.drop kk) with
            | none=>rw [htw] at hrow';cases hrow'
            | some ws =>
              rw [htw] at hrow' de
              have hmade:r.wellMade ⟨s,t,l.take kk,ws⟩=true:=hrow'
              have de:Nets.does r (.rule 0 s t (kk::l))=if r.wellMade ⟨s,t,l.take kk,ws⟩=false then (r,Nets.says (-6)) else if s=t∧Nets.Rule.even ⟨s,t,l.take kk,ws⟩=false then (r,Nets.says (-7)) else (⟨r.arity,r.rules++[⟨s,t,l.take kk,ws⟩],r.sym,r.link⟩,Nets.says 0):=de
              rw [hmade,if_neg (by simp)] at de
              have md:=made_of ok hmade
              have hfl:flat ws=l.drop kk:=twos_ends _ _ htw
              have hwl:ws.length≤100:=by
                have q1:=flat_len ws
                have q2:=md.perm.length_eq
                have q3:=newPl_len ok (l.take kk)
                have q4:(needed r s t (l.take kk)).length=(newPl r (l.take kk)).length+(r.of s+r.of t):=by
                  unfold needed
                  rw [List.length_append,List.length_append,List.length_map,List.length_map,List.length_range,List.length_range]
                have os:=of_le ok s
                have ot:=of_le ok t
                rw [List.length_take] at q3
                have q2:(needed r s t (l.take kk)).length=(flat ws).length:=q2
                omega
              have ha3:=sH3 _ _ ha
              refine iteF ⟨_,rfl,a,kk,l,rfl,ha3,fun sy hsy=>?_⟩
              have s4:=Same.upd (o:=.lst (nats (l.take kk))) sH3 hsy
              have hsy0:H sy=none:=sH3.free hsy
              generalize hH4:upd H3 sy (.lst (nats (l.take kk)))=H4 at *
              have hsy4:H4 sy=some (.lst (nats (l.take kk))):=by rw [← hH4];exact upd_same
              refine ⟨_,rfl,a,kk,l,rfl,s4 _ _ ha,fun wp hwp=>?_⟩
              have s5:Same H4 (upd H4 wp (.lst (nats (l.drop kk)))):=Same.upd (Same.refl _) hwp
              refine ⟨wp,ws,rfl,(by rw [hfl];exact upd_same),md.nd,hwl,fun H6 ma kvs hma0 s6 hma dma=>?_⟩
              have s46:=s5.trans s6
              have sH6:=s4.trans s46
              have hsy6:=s46 _ _ hsy4
              have hma00:H ma=none:=(s4.trans s5).free hma0
              have hsm:sy≠ma:=fun z=>by
                rw [← z] at hma0
                rw [s5 _ _ hsy4] at hma0
                cases hma0
              have tail:(¬ (s=t∧Nets.Rule.even ⟨s,t,l.take kk,ws⟩=false))→∀ H7,Same H6 H7 →
                  tSeq (sDPut (tFld K (tVar 0) "rules") (tCall spRuleKey [] E0 (tCons (tVar 1) (tCons (tVar 2) tNil))) (tMake CR (spRuleInit CR) [] E0 (tCons (tVar 1) (tCons (tVar 4) (tCons (tVar 5) tNil))))) (tRet (tLst (tCons (tC (.int 0)) tNil))) { nx:=fun _ H'=>Q .non H',rt:=Q }
                    [some (.ref A.p),some (nV s),some (nV t),some (.ref a),some (.ref sy),some (.ref ma)] H7:=fun hgo H7 s7=>by
                rw [if_neg hgo] at de
                have sH7:=sH6.trans s7
                refine ⟨_,rfl,_,rfl,_,rfl,fun x dx hx hdx hxd=>?_⟩
                refine ⟨x,dx,nV s,.ref sy,.ref ma,rfl,upd_same,fun H8 hx8 k8=>⟨rfl,?_⟩⟩
                have s8:Same H7 H8:=Same.made hx hdx k8
                have sH8:=sH7.trans s8
                have h8:=h1.same sH8
                refine ⟨_,rfl,A.p,C,A.dx,_,_,rfl,h8.obj,T.cl,T.nRules,recF_rules A,_,rfl,_,rfl,s,t,rfl,fun p2 hp2=>?_⟩
                have s9:Same H8 (upd H8 p2 (.tup ((keyOf s t).map kV))):=Same.upd (Same.refl _) hp2
                have h9:=h8.same s9
                refine ⟨A.ru,_,rfl,DPut.t (k:=keyOf s t) (v:=.ref x) h9.ru upd_same (by rw [rulesK_len h1.rlen];exact small1000 h1000),(by show 1≤sizeLine;decide),fun p hp=>?_⟩
                rw [putK_new _ q2] at hp ⊢
                have hx0:H x=none:=sH7.free hx
                have kb:∀ b,b≠A.ru→∀ o,H b=some o→upd (upd H8 p2 (.tup ((keyOf s t).map kV))) A.ru (.dT (rulesK A.rl r.rules++[(keyOf s t,.ref x)])) b=some o:=fun b hb o e=>by
                  rw [upd_ne hb]
                  exact s9 _ _ (sH8 _ _ e)
                have neru:∀ {b:Addr},H b=none→b≠A.ru:=fun {b} hb z=>by
                  rw [z,h1.ru] at hb
                  cases hb
                have kn:∀ b o,H8 b=some o→H b=none→upd (upd H8 p2 (.tup ((keyOf s t).map kV))) A.ru (.dT (rulesK A.rl r.rules++[(keyOf s t,.ref x)])) b=some o:=fun b o e hb=>by
                  rw [upd_ne (neru hb)]
                  exact s9 _ _ e
                refine ends_new (r':=⟨r.arity,r.rules++[⟨s,t,l.take kk,ws⟩],r.sym,r.link⟩) (a:=Nets.says 0) (A':={ A with rl:=A.rl++[⟨x,dx,sy,ma⟩] }) (p:=p) k de
                  ⟨h1.addRule (R:=⟨s,t,l.take kk,ws⟩) kb upd_same ⟨kn _ _ hx8 hx0,kn _ _ (s8 _ _ (s7 _ _ hsy6)) hsy0,kvs,kn _ _ (s8 _ _ (s7 _ _ hma)) hma00,dma⟩ (fun b hb=>?_),rfl,fun b o e nb=>kb b (fun z=>nb (by rw [z];exact A.mem_ru)) o e,fun b hb=>?_⟩ hp (sH8.free (s9.free (upd_none hp).1))
                · unfold RuleAd.fp at hb
                  simp at hb
                  rcases hb with rfl | rfl | rfl
                  · exact hx0
                  · exact hsy0
                  · exact hma00
                · unfold RecAd.fp at hb
                  have hb:b∈A.p::A.mp::A.ru::A.ag::A.jo::(A.rl++[(⟨x,dx,sy,ma⟩ : RuleAd)]).flatMap RuleAd.fp:=hb
                  rw [List.flatMap_append] at hb
                  have hb2:b∈A.fp++[x,sy,ma]:=by
                    unfold RecAd.fp
                    simpa [RuleAd.fp] using hb
                  rcases List.mem_append.mp hb2 with z | z
                  · exact .inl z
                  · refine .inr ?_
                    simp at z
                    rcases z with rfl | rfl | rfl
                    · exact hx0
                    · exact hsy0
                    · exact hma00
              refine ⟨_,rfl,_,rfl,rfl,_,rfl,ite2 (fun c3=>?_) (fun c3=>?_)⟩
              · have c3:s=t:=nV_eq.mp (of_decide_eq_true c3)
                refine ⟨_,rfl,_,rfl,sy,ma,l.take kk,kvs,otherW ws,rfl,hsy6,hma,dma,md.mates ok c3,md.n6,fun H7 b s7 hb=>⟨_,rfl,?_⟩⟩
                have ev:=even_iff (R:=⟨s,t,l.take kk,ws⟩) md.nd md.n6 (md.lt ok)
                have hbe:b=Nets.Rule.even ⟨s,t,l.take kk,ws⟩:=by
                  rw [Bool.eq_iff_iff]
                  exact hb.trans ev.symm
                cases hbb:b with
                | false =>
                  rw [hbb] at hbe
                  refine iteT ⟨(by show 1≤sizeLine;decide),fun p hp=>?_⟩
                  rw [if_pos ⟨c3,hbe.symm⟩] at de
                  exact ends_same (a:=Nets.says (-7)) h1 k de (sH6.trans s7) hp
                | true =>
                  rw [hbb] at hbe
                  exact iteF (tail (fun z=>by rw [← hbe] at z;exact absurd z.2 (by simp)) H7 s7)
              · have c3:s≠t:=fun z=>c3 (decide_eq_true (nV_eq.mpr z))
                exact iteF (tail (fun z=>c3 z.1) H6 (Same.refl _))
        · rw [q2]
          rw [q1,if_pos (show (some R).isSome=true from rfl)] at de
          refine iteT ⟨(by show 1≤sizeLine;decide),fun p hp=>?_⟩
          exact ends_same (a:=Nets.says (-5)) h1 k de s1 hp
end
structure NetRd (C:Addr) (H:Hp) (A:RecAd) (r:Nets.Rec):Prop where
  obj:H A.p=some (.ins C A.dx (recF A))
  ag:∃ kvs,Rd H A.ag (.dK kvs)∧DictIs kvs r.symAt
  jo:∃ kvs,Rd H A.jo (.dK kvs)∧DictIs kvs r.at_
theorem RecAt.rd {C CR:Addr} {H:Hp} {A:RecAd} {r:Nets.Rec} (h:RecAt C CR H A r):NetRd C H A r:=by
  obtain ⟨ka,ea,da⟩:=h.ag
  obtain ⟨kj,ej,dj⟩:=h.jo
  exact ⟨h.obj,⟨ka,.inl ea,da⟩,⟨kj,.inl ej,dj⟩⟩
theorem DGet.rd {H:Hp} {a:Addr} {kvs:List (Key × V)} {k:Key} (e:Rd H a (.dK kvs)):DGet H a (kV k) (valV kvs k):=.inl ⟨kvs,k,e,rfl,rfl⟩
theorem NetRd.same {C:Addr} {H H' : Hp} {A:RecAd} {r:Nets.Rec} (h:NetRd C H A r) (s:Same H H'):NetRd C H' A r:=by
  obtain ⟨ka,ea,da⟩:=h.ag
  obtain ⟨kj,ej,dj⟩:=h.jo
  have f:∀ {a:Addr} {o:HO},Rd H a o→Rd H' a o:=fun {a o} q=>by
    rcases q with q | ⟨ob,q⟩
    · exact .inl (s _ _ q)
    · exact .inr ⟨ob,s _ _ q⟩
  exact ⟨s _ _ h.obj,⟨ka,f ea,da⟩,⟨kj,f ej,dj⟩⟩
theorem v2 {p:Addr} {z:Int} {n:Nat} (h:z=(n:Int)):[V.ref p,V.int z]=[V.ref p,nV n]:=by rw [h]
theorem NetRd.getJo {C:Addr} {H:Hp} {A:RecAd} {r:Nets.Rec} (h:NetRd C H A r) (n:Nat):DGet H A.jo (nV n) ((r.at_ n).map nV):=by
  obtain ⟨kj,ej,dj⟩:=h.jo
  have q:=DGet.rd (k:=Sum.inl (n:Int)) ej
  rw [dj.val] at q
  exact q
theorem NetRd.getAg {C:Addr} {H:Hp} {A:RecAd} {r:Nets.Rec} (h:NetRd C H A r) (n:Nat):DGet H A.ag (nV n) ((r.symAt n).map nV):=by
  obtain ⟨kj,ej,dj⟩:=h.ag
  have q:=DGet.rd (k:=Sum.inl (n:Int)) ej
  rw [dj.val] at q
  exact q
theorem NetRd.isJo {C:Addr} {H:Hp} {A:RecAd} {r:Nets.Rec} (h:NetRd C H A r):IsD H A.jo:=by
  obtain ⟨kj,ej,dj⟩:=h.jo
  exact .inl ⟨kj,ej⟩
theorem whole_iff {r:Nets.Rec} (ok:RecOk r):r.whole=true↔∀ a s j,r.symAt a=some s→j≤r.of s→(r.at_ (4*a+j)).isSome=true:=by
  unfold Nets.Rec.whole
  rw [List.all_eq_true]
  constructor
  · intro h a s j hs hj
    have ha:=ok.sym_lt (a:=a) (by rw [hs];rfl)
    have ho:=of_le ok s
    have q:=h (4*a+j) (List.mem_range.mpr (by unfold Nets.NAMES;omega))
    have e1:(4*a+j) / 4=a:=by omega
    have e2:(4*a+j)%4=j:=by omega
    have p:r.isPort (4*a+j)=true:=by
      unfold Nets.Rec.isPort
      rw [if_neg (by unfold Nets.NAMES;omega),e1,hs,e2]
      exact decide_eq_true hj
    rw [p] at q
    simpa using q
  · intro h x hx
    have hx:=List.mem_range.mp hx
    unfold Nets.NAMES at hx
    cases p:r.isPort x with
    | false=>rfl
    | true =>
      obtain ⟨t,ht,hj⟩:=RecOk.port_sym p hx
      have q:=h (x / 4) t (x%4) ht hj
      rw [show 4*(x / 4)+x%4=x by omega] at q
      rw [q];rfl
section
variable {P:Program} {w:World} {K:PySem.W.Frag} {mg:Str→Option Value} {base:Heap} {C CR:Addr}
def spJoined (C:Addr):Sp:=fun vs H Q _=>∃ (A:RecAd) (r:Nets.Rec) (n:Nat),vs=[.ref A.p,nV n]∧NetRd C H A r∧Q (nV (Nets.told (r.at_ n))) H
theorem sc_joined_to:FnScope ["record", "point"] ["record", "point"] (defScope s_joined_to):=⟨rfl,rfl,rfl,by decide +kernel,rfl,by decide +kernel,by decide +kernel⟩
theorem ok_joined_to {f:Addr} {fd:FuncData} (F:Fun K "joined_to" "joined_to" s_joined_to f fd) (T:Txt K mg C CR):FnOk P w K mg base CX0 1 f fd ["record", "point"] (spJoined C):=by
  refine F.ok sc_joined_to (fun vs H Q E h=>?_) (fun cdv A0 outer s H vs Q E hr h=>?_)
  · obtain ⟨A,r,n,rfl,_⟩:=h
    rfl
  · obtain ⟨A,r,n,rfl,h1,k⟩:=h
    have hu:=hu_of hr
    refine ⟨_,(pss_one (ps_ret (pe_dget2 hu (pe_fld (pv 0) rfl) (pv 1) (pe_glV rfl T.c_NOTHING) ⟨rfl,rfl,rfl,rfl⟩))),?_⟩
    refine ⟨_,rfl,A.p,C,A.dx,_,_,rfl,h1.obj,T.cl,T.nJoined,recF_joined A,A.jo,rfl,h1.isJo,_,rfl,_,h1.getJo n,?_⟩
    refine qe k ?_
    cases r.at_ n <;> rfl
def spReadAgent (C CR:Addr):Sp:=fun vs H Q _=>∃ (A:RecAd) (r:Nets.Rec) (n:Nat),vs=[.ref A.p,nV n]∧RecAt C CR H A r∧RecOk r∧Ends_ C CR H A r (.read 0 n) Q
theorem sc_read_agent:FnScope ["record", "a", "ports", "j"] ["record", "a"] (defScope s_read_agent):=⟨rfl,rfl,rfl,by decide +kernel,rfl,by decide +kernel,by decide +kernel⟩
theorem ok_read_agent {f:Addr} {fd:FuncData} (F:Fun K "read_agent" "read_agent" s_read_agent f fd) (T:Txt K mg C CR) (D_joined_to:Df P w K mg base "joined_to" ["record", "point"] 1 (spJoined C)):FnOk P w K mg base CX0 2 f fd ["record", "a"] (spReadAgent C CR):=by
  refine F.ok sc_read_agent (fun vs H Q E h=>?_) (fun cdv A0 outer s H vs Q E hr h=>?_)
  · obtain ⟨A,r,n,rfl,_⟩:=h
    rfl
  · obtain ⟨A,r,n,rfl,h1,ok,k⟩:=h
    have nd:=sc_read_agent.nd
    have hu:=hu_of hr
    refine ⟨_,(pss_cons (ps_if (pt_cmp (pc_dnotin hu (pv 1) (pe_fld (pv 0) rfl))) (pss_one (ps_ret (pe_lst (pa_cons (pe_glV rfl T.c_NOT_THERE) pa_nil)))) pss_nil)
      (pss_cons (ps_setLc (i:=2) (own:=[("j",3)]) rfl nd rfl rfl (sw_true rfl rfl rfl rfl) (pi_range1 rfl T.b_range (pa_cons (pe_glV rfl T.c_PORTS_APART) pa_nil)) (blkOk_by (by rfl)) (fun _ _ _ _ _=>pg_name (i:=3) nd rfl (Or.inl rfl)) (fun _ _ _ _ _=>pts_nil)
        (fun _ _ _ _ _=>pe_callD D_joined_to (hr.mono (by decide)) rfl (pa_cons (pv 0) (pa_cons (pe_op op_add (pe_op op_mul (pe_glV rfl T.c_PORTS_APART) (pv 1)) (pv 3)) pa_nil))))
      (pss_one (ps_ret (pe_op op_cat (pe_lst (pa_cons pe_int (pa_cons (pe_dget hu (pe_fld (pv 0) rfl) (pv 1) (fun _ _=>rfl)) pa_nil))) (pv 2)))))),?_⟩
    refine ⟨_,rfl,_,rfl,A.p,C,A.dx,_,_,rfl,h1.obj,T.cl,T.nAgents,recF_agents A,A.ag,_,rfl,h1.rd.getAg n,_,rfl,?_⟩
    cases hs:r.symAt n with
    | none =>
      refine iteT ⟨(by show 1≤sizeLine;decide),fun p hp=>?_⟩
      exact ends_same (a:=Nets.says (-4)) h1 k (by unfold Nets.does;dsimp only;rw [hs]) (Same.refl _) hp
    | some sy =>
      refine iteF ⟨4,rfl,by decide,by decide,fun D hD=>lc_range (n:=4) (fun i H'=>Same H H'∧H' D=some (.lst (nats ((List.range i).map fun j=>Nets.told (r.at_ (4*n+j))))))
        ⟨Same.upd (Same.refl _) hD,upd_same⟩ ?_ ?_⟩
      · rintro i H' hi ⟨s1,hD'⟩
        have e:(4:Int)*(n:Int)+(0+(i:Int))=((4*n+i:Nat):Int):=by omega
        refine ⟨rfl,?_⟩
        unfold tYes
        refine Eq.mpr (if_pos rfl) ?_
        refine ⟨_,rfl,_,rfl,_,_,rfl,rfl,.inl ⟨by decide,by decide⟩,_,rfl,_,_,rfl,rfl,A,r,4*n+i,v2 e,(h1.same s1).rd,_,hD',?_,?_⟩
        · rw [List.length_map,List.length_map,List.length_range]
          exact small1000 (by omega)
        · refine ⟨fun b o eb=>?_,?_⟩
          · rw [upd_ne (ne_of_none eb hD)]
            exact s1 b o eb
          · rw [upd_same,range_snoc,snocV _ _ rfl]
      · rintro H' ⟨s1,hD'⟩
        have h2:=h1.same s1
        have g:=h2.rd.getAg n
        rw [hs] at g
        refine ⟨_,rfl,A.p,C,A.dx,_,_,rfl,h2.obj,T.cl,T.nAgents,recF_agents A,_,rfl,A.ag,nV sy,rfl,g,(by show 2≤sizeLine;decide),fun l0 hl0=>?_⟩
        have s2:Same H' (upd H' l0 (.lst [V.int 0,nV sy])):=Same.upd (Same.refl _) hl0
        refine ⟨_,rfl,l0,D,_,_,rfl,rfl,upd_same,s2 _ _ hD',(by show 6≤sizeLine;decide),fun p hp=>?_⟩
        exact ends_same (a:=Nets.tells (sy::(List.range 4).map fun j=>Nets.told (r.at_ (4*n+j)))) h1 k (by unfold Nets.does;dsimp only;rw [hs]) (s1.trans s2) hp
def spReadName (C CR:Addr):Sp:=fun vs H Q _=>∃ (A:RecAd) (r:Nets.Rec) (n:Nat),vs=[.ref A.p,nV n]∧RecAt C CR H A r∧RecOk r∧Ends_ C CR H A r (.name 0 n) Q
theorem sc_read_name:FnScope ["record", "n"] ["record", "n"] (defScope s_read_name):=⟨rfl,rfl,rfl,by decide +kernel,rfl,by decide +kernel,by decide +kernel⟩
theorem ok_read_name {f:Addr} {fd:FuncData} (F:Fun K "read_name" "read_name" s_read_name f fd) (T:Txt K mg C CR) (D_joined_to:Df P w K mg base "joined_to" ["record", "point"] 1 (spJoined C)):FnOk P w K mg base CX0 2 f fd ["record", "n"] (spReadName C CR):=by
  refine F.ok sc_read_name (fun vs H Q E h=>?_) (fun cdv A0 outer s H vs Q E hr h=>?_)
  · obtain ⟨A,r,n,rfl,_⟩:=h
    rfl
  · obtain ⟨A,r,n,rfl,h1,ok,k⟩:=h
    refine ⟨_,(pss_cons (ps_if (pt_cmpR op_ge (pv 1) (pe_glV rfl T.c_NAME_COUNT) (nomark _)) (pss_one (ps_ret (pe_lst (pa_cons (pe_glV rfl T.c_TOO_HIGH) pa_nil)))) pss_nil) (pss_one (ps_ret (pe_lst (pa_cons pe_int (pa_cons (pe_callD D_joined_to (hr.mono (by decide)) rfl (pa_cons (pv 0) (pa_cons (pe_op op_add (pe_glV rfl T.c_FIRST_NAME) (pv 1)) pa_nil))) pa_nil)))))),?_⟩
    refine ⟨_,rfl,_,_,rfl,rfl,_,rfl,ite2 (fun c=>?_) (fun c=>?_)⟩
    · have c:(16:Int)≤n:=of_decide_eq_true c
      refine ⟨(by show 1≤sizeLine;decide),fun p hp=>?_⟩
      exact ends_same (a:=Nets.says (-1)) h1 k (by unfold Nets.does;dsimp only;rw [if_pos (by unfold Nets.FREE;omega)]) (Same.refl _) hp
    · have c:¬ (16:Int)≤n:=fun z=>c (decide_eq_true z)
      refine ⟨_,rfl,_,rfl,_,_,rfl,rfl,A,r,256+n,v2 (z:=(256:Int)+(n:Int)) (by omega),h1.rd,(by show 2≤sizeLine;decide),fun p hp=>?_⟩
      exact ends_same (a:=Nets.tells [Nets.told (r.at_ (256+n))]) h1 k (by unfold Nets.does;dsimp only;rw [if_neg (by unfold Nets.FREE;omega)];rfl) (Same.refl _) hp
def spCountAgents (C CR:Addr):Sp:=fun vs H Q _=>∃ (A:RecAd) (r:Nets.Rec),vs=[.ref A.p]∧RecAt C CR H A r∧RecOk r∧Ends_ C CR H A r (.count 0) Q
theorem filter_len {α:Type} (l:List (Option α)):(l.filter Option.isSome).length=((List.range l.length).filter fun n=>(l.getD n none).isSome).length:=by
  have e:l=(List.range l.length).map fun n=>l.getD n none:=by
    refine List.ext_getElem? fun i=>?_
    rw [List.getElem?_map]
    by_cases h:i<l.length
    · rw [List.getElem?_range h,Option.map_some,List.getD_eq_getElem?_getD,List.getElem?_eq_getElem h];rfl
    · rw [List.getElem?_eq_none (by omega),List.getElem?_eq_none (by rw [List.length_range];omega)];rfl
  conv=>lhs;rw [e]
  rw [List.filter_map,List.length_map]
  rfl
theorem count_eq {r:Nets.Rec} (ok:RecOk r):Nets.count r=((List.range 64).filter fun n=>(r.symAt n).isSome).length:=by
  unfold Nets.count
  rw [filter_len,ok.sl]
  rfl
theorem sc_count_agents:FnScope ["record"] ["record"] (defScope s_count_agents):=⟨rfl,rfl,rfl,by decide +kernel,rfl,by decide +kernel,by decide +kernel⟩
theorem ok_count_agents {f:Addr} {fd:FuncData} (F:Fun K "count_agents" "count_agents" s_count_agents f fd) (T:Txt K mg C CR):FnOk P w K mg base CX0 1 f fd ["record"] (spCountAgents C CR):=by
  refine F.ok sc_count_agents (fun vs H Q E h=>?_) (fun cdv A0 outer s H vs Q E hr h=>?_)
  · obtain ⟨A,r,rfl,_⟩:=h
    rfl
  · obtain ⟨A,r,rfl,h1,ok,k⟩:=h
    obtain ⟨kvs,hag,dag⟩:=h1.ag
    have hlen:=dag.len (B:=64) fun n hn=>ok.sym_lt hn
    refine ⟨_,(pss_one (ps_ret (pe_lst (pa_cons pe_int (pa_cons (pe_callB call_lenD (by rfl) T.b_len PySem.boot_len (pa_cons (pe_fld (pv 0) rfl) pa_nil)) pa_nil))))),?_⟩
    refine ⟨_,rfl,A.p,C,A.dx,_,_,rfl,h1.obj,T.cl,T.nAgents,recF_agents A,A.ag,kvs,rfl,hag,(by show 2≤sizeLine;decide),fun p hp=>?_⟩
    have q:=ends_same (a:=Nets.tells [Nets.count r]) (p:=p) h1 k rfl (Same.refl _) hp
    have e:ansV (Nets.tells [Nets.count r])=[V.int 0,V.int (kvs.length:Int)]:=by
      rw [hlen,← count_eq ok];rfl
    rw [e] at q
    exact q
def spIsWhole (C CR:Addr):Sp:=fun vs H Q _=>∃ (A:RecAd) (r:Nets.Rec),vs=[.ref A.p]∧RecAt C CR H A r∧RecOk r∧∀ H',Same H H'→Q (.bl r.whole) H'
theorem sc_is_whole:FnScope ["record", "agent", "j"] ["record"] (defScope s_is_whole):=⟨rfl,rfl,rfl,by decide +kernel,rfl,by decide +kernel,by decide +kernel⟩
theorem ok_is_whole {f:Addr} {fd:FuncData} (F:Fun K "is_whole" "is_whole" s_is_whole f fd) (T:Txt K mg C CR):FnOk P w K mg base CX0 1 f fd ["record"] (spIsWhole C CR):=by
  refine F.ok sc_is_whole (fun vs H Q E h=>?_) (fun cdv A0 outer s H vs Q E hr h=>?_)
  · obtain ⟨A,r,rfl,_⟩:=h
    rfl
  · obtain ⟨A,r,rfl,h1,ok,k⟩:=h
    have nd:=sc_is_whole.nd
    have hu:=hu_of hr
    obtain ⟨kva,hag,dag⟩:=h1.ag
    obtain ⟨kvj,hjo,djo⟩:=h1.jo
    have ap:=h1.ap
    refine ⟨_,(pss_cons (ps_lock (ps_for PassesOwn.never rfl (pi_keys (pe_fld (pv 0) rfl)) (pg_name (i:=1) nd rfl (Or.inl rfl)) (pss_one (ps_for PassesOwn.never rfl (pi_range1 rfl T.b_range (pa_cons (pe_op op_add pe_int (pe_ix ix_list (pe_fld (pv 0) rfl) (pe_dget hu (pe_fld (pv 0) rfl) (pv 1) (fun _ _=>rfl)) (fun _ _=>rfl))) pa_nil)) (pg_name (i:=2) nd rfl (Or.inl rfl)) (pss_one (ps_if (pt_cmp (pc_dnotin hu (pe_op op_add (pe_op op_mul (pe_glV rfl T.c_PORTS_APART) (pv 1)) (pv 2)) (pe_fld (pv 0) rfl))) (pss_one (ps_ret pe_bl)) pss_nil)))))) (pss_one (ps_ret pe_bl))),?_⟩
    have wi:=whole_iff ok
    refine ⟨A.ag,.dK kva,hag,True.intro,fun od=>⟨_,rfl,A.p,C,A.dx,_,_,rfl,(by rw [upd_ne ap.pa];exact h1.obj),T.cl,T.nAgents,recF_agents A,A.ag,od,rfl,.inl ⟨kva,upd_same,?_⟩⟩⟩
    have hf:(upd H A.ag (.frz od (.dK kva))) A.ag=some (.frz od (.dK kva)):=upd_same
    have ho:(upd H A.ag (.frz od (.dK kva))) A.p=some (.ins C A.dx (recF A)):=by rw [upd_ne ap.pa];exact h1.obj
    have hm:(upd H A.ag (.frz od (.dK kva))) A.mp=some (.lst (nats r.arity)):=by rw [upd_ne ap.ma];exact h1.mp
    have hj:(upd H A.ag (.frz od (.dK kva))) A.jo=some (.dK kvj):=by rw [upd_ne ap.aj.symm];exact hjo
    refine for_keys (fun i σ H'=>H'=upd H A.ag (.frz od (.dK kva))∧(∃ a b,σ=[some (.ref A.p),a,b])∧∀ p∈kva.take i,∀ n s j:Nat,p.1=.inl (n:Int)→r.symAt n=some s→j≤r.of s→(r.at_ (4*n+j)).isSome=true)
      ⟨rfl,⟨none,none,rfl⟩,fun p hp=>absurd hp (by simp)⟩ (fun i σ H' _ ⟨e,_⟩=>by rw [e];exact hf) ?_ ?_
    · rintro i ky v σ H' hi ⟨rfl,⟨a,b,rfl⟩,hall⟩
      obtain ⟨n,rfl⟩:=dag.key ky (List.mem_map.mpr ⟨_,List.mem_of_getElem? hi,rfl⟩)
      have hsn:=(dag.mem n).mp (List.mem_map.mpr ⟨_,List.mem_of_getElem? hi,rfl⟩)
      obtain ⟨sy,hsy⟩:=Option.isSome_iff_exists.mp hsn
      have hlt:=ok.ofLt hsy
      have osy:=of_le ok sy
      have ga:DGet (upd H A.ag (.frz od (.dK kva))) A.ag (nV n) (some (nV sy)):=by
        have q:=DGet.frz (k:=Sum.inl (n:Int)) hf
        rw [dag.val,hsy] at q
        exact q
      refine ⟨_,rfl,A.p,C,A.dx,_,_,rfl,ho,T.cl,T.nMore,recF_more A,_,rfl,A.p,C,A.dx,_,_,rfl,ho,T.cl,T.nAgents,recF_agents A,_,rfl,A.ag,nV sy,rfl,ga,A.mp,_,(sy:Int),nV (r.of sy),rfl,rfl,SqL.of hm,nats_at hlt,_,_,rfl,rfl,1+(r.of sy:Int),rfl,by omega,by omega,
        for_range (n:=(1+(r.of sy:Int)).toNat) (fun j σ H'=>H'=upd H A.ag (.frz od (.dK kva))∧(∃ b,σ=[some (.ref A.p),some (nV n),b])∧∀ q,q<j→(r.at_ (4*n+q)).isSome=true)
        ⟨rfl,⟨_,rfl⟩,fun q hq=>absurd hq (by omega)⟩ ?_ ?_⟩
      · rintro j σ H' hj' ⟨rfl,⟨b,rfl⟩,hq⟩
        have e:(4:Int)*(n:Int)+(0+(j:Int))=((4*n+j:Nat):Int):=by omega
        refine ⟨_,rfl,_,_,rfl,rfl,.inl ⟨by decide,by decide⟩,_,rfl,_,_,rfl,rfl,_,rfl,A.p,C,A.dx,_,_,rfl,ho,T.cl,T.nJoined,recF_joined A,A.jo,_,rfl,(by show DGet _ A.jo (V.int (4*(n:Int)+(0+(j:Int)))) _;rw [e];exact DGet.k (k:=Sum.inl ((4*n+j:Nat):Int)) hj),_,rfl,?_⟩
        rw [djo.val]
        cases hx:r.at_ (4*n+j) with
        | none =>
          refine iteT ⟨hf,?_⟩
          have q:=k _ (upd_back (v:=.frz od (.dK kva)) hag)
          have e:r.whole=false:=by
            rw [Bool.eq_false_iff]
            intro z
            have q:=wi.mp z n sy j hsy (by omega)
            rw [hx] at q
            cases q
          rw [e] at q
          exact q
        | some y =>
          refine iteF ⟨rfl,⟨_,rfl⟩,fun q hq2=>?_⟩
          by_cases z:q=j
          · subst z;rw [hx];rfl
          · exact hq q (by omega)
      · rintro σ H' ⟨rfl,⟨b,rfl⟩,hq⟩
        refine ⟨rfl,⟨_,_,rfl⟩,fun p hp n' s' j' e1 e2 h2=>?_⟩
        rw [take_snoc hi] at hp
        rcases List.mem_append.mp hp with z | z
        · exact hall p z n' s' j' e1 e2 h2
        · have e:p=(.inl (n:Int),v):=by simpa using z
          subst e
          have e3:n'=n:=by
            injection e1 with e1
            omega
          subst e3
          rw [hsy] at e2
          cases e2
          exact hq j' (by omega)
    · rintro σ H' ⟨rfl,⟨a,b,rfl⟩,hall⟩
      refine ⟨hf,?_⟩
      have q:=k _ (upd_back (v:=.frz od (.dK kva)) hag)
      have e:r.whole=true:=wi.mpr fun a s j hs hj=>by
        rw [List.take_length] at hall
        have hk:=(dag.mem a).mpr (by rw [hs];rfl)
        obtain ⟨p,hp,e⟩:=List.mem_map.mp hk
        exact hall p hp a s j e hs hj
      rw [e] at q
      exact q
end
structure RuleOk (r:Nets.Rec) (R:Nets.Rule):Prop where
  s:R.s<r.arity.length
  t:R.t<r.arity.length
  made:Made r R
def RulesOk (r:Nets.Rec):Prop:=∀ R∈r.rules,RuleOk r R
structure PairOk (r:Nets.Rec) (a b:Nat) (P:Nets.Pair):Prop where
  at0:r.at_ (4*a)=some (4*b)
  lt:a<b
  b64:b<64
  xy:(P.x=a∧P.y=b∧r.symAt a=some P.rule.s∧r.symAt b=some P.rule.t)∨(P.x=b∧P.y=a∧r.symAt b=some P.rule.s∧r.symAt a=some P.rule.t∧P.rule.s≠P.rule.t)
  mem:P.rule∈r.rules
  rf:∀ s t,r.symAt a=some s→r.symAt b=some t→r.ruleFor s t=some P.rule
theorem pair_ok {r:Nets.Rec} (ok:RecOk r) {a:Nat} {P:Nets.Pair} (h:r.pairAt a=some P):∃ b,PairOk r a b P:=by
  cases hs:r.symAt a with
  | none=>unfold Nets.Rec.pairAt at h;rw [hs] at h;cases h
  | some s =>
    cases hz:r.at_ (4*a) with
    | none=>unfold Nets.Rec.pairAt at h;rw [hs,hz] at h;cases h
    | some z =>
      rw [pairAt_eq r a hs hz] at h
      by_cases c:Nets.NAMES≤z∨z%4≠0∨z / 4≤a
      · rw [if_pos c] at h;cases h
      · rw [if_neg c] at h
        cases ht:r.symAt (z / 4) with
        | none=>rw [ht] at h;cases h
        | some t =>
          rw [ht] at h
          have h:(r.ruleFor s t).map (fun (R:Nets.Rule)=>if R.s=s then (⟨a,z / 4,R⟩ : Nets.Pair) else ⟨z / 4,a,R⟩)=some P:=h
          cases hR:r.ruleFor s t with
          | none=>rw [hR] at h;cases h
          | some R =>
            rw [hR] at h
            have h:(if R.s=s then (⟨a,z / 4,R⟩ : Nets.Pair) else ⟨z / 4,a,R⟩)=P:=Option.some.inj h
            have hn:¬ (256≤z∨z%4≠0∨z / 4≤a):=c
            have e4:4*(z / 4)=z:=by omega
            have hm:=List.mem_of_find?_eq_some hR
            have hc:=List.find?_some hR
            rw [Bool.or_eq_true,Bool.and_eq_true,Bool.and_eq_true,beq_iff_eq,beq_iff_eq,beq_iff_eq,beq_iff_eq] at hc
            have hr:P.rule=R:=by
              rw [← h]
              split <;> rfl
            refine ⟨z / 4,by rw [hz,e4],by omega,by omega,?_,by rw [hr];exact hm,fun s' t' h1 h2=>?_⟩
            · by_cases e:R.s=s
              · rw [if_pos e] at h
                subst h
                refine .inl ⟨rfl,rfl,by rw [hs,← e],?_⟩
                rw [ht]
                rcases hc with q | q
                · exact congrArg some q.2.symm
                · refine congrArg some ?_
                  show t=R.t
                  omega
              · rw [if_neg e] at h
                subst h
                rcases hc with q | q
                · exact absurd q.1 e
                · exact .inr ⟨rfl,rfl,by rw [ht,← q.1],by rw [hs,← q.2],fun z=>e (by show R.s=s;have z:R.s=R.t:=z;omega)⟩
            · rw [hs] at h1
              rw [ht] at h2
              cases h1
              cases h2
              rw [hr]
              exact hR
theorem PairOk.symA {r:Nets.Rec} {a b:Nat} {P:Nets.Pair} (h:PairOk r a b P):∃ s,r.symAt a=some s:=by
  rcases h.xy with q | q
  · exact ⟨_,q.2.2.1⟩
  · exact ⟨_,q.2.2.2.1⟩
theorem PairOk.symB {r:Nets.Rec} {a b:Nat} {P:Nets.Pair} (h:PairOk r a b P):∃ s,r.symAt b=some s:=by
  rcases h.xy with q | q
  · exact ⟨_,q.2.2.2⟩
  · exact ⟨_,q.2.2.1⟩
theorem PairOk.symX {r:Nets.Rec} {a b:Nat} {P:Nets.Pair} (h:PairOk r a b P):r.symAt P.x=some P.rule.s:=by
  rcases h.xy with q | q
  · rw [q.1];exact q.2.2.1
  · rw [q.1];exact q.2.2.1
theorem PairOk.symY {r:Nets.Rec} {a b:Nat} {P:Nets.Pair} (h:PairOk r a b P):r.symAt P.y=some P.rule.t:=by
  rcases h.xy with q | q
  · rw [q.2.1];exact q.2.2.2
  · rw [q.2.1];exact q.2.2.2.1
theorem PairOk.ne {r:Nets.Rec} {a b:Nat} {P:Nets.Pair} (h:PairOk r a b P):P.x≠P.y:=by
  have:=h.lt
  rcases h.xy with q | q
  · rw [q.1,q.2.1];omega
  · rw [q.1,q.2.1];omega
theorem filter_parts {α:Type} (p:α→Bool):∀ l:List α,(l.filter p).length+(l.filter fun a=>!p a).length=l.length
  | []=>rfl
  | a::l=>by
    have ih:=filter_parts p l
    rw [List.filter_cons,List.filter_cons]
    cases p a <;> simp <;> omega
theorem drop1 {l:List Nat} (nd:l.Nodup) {x:Nat} (hx:x∈l):(l.filter fun a=>a != x).length+1=l.length:=by
  rw [← nd.erase_eq_filter,List.length_erase_of_mem hx]
  have:=List.length_pos_of_mem hx
  omega
theorem free_len {r:Nets.Rec} (ok:RecOk r) {x y:Nat} (hx:(r.symAt x).isSome=true) (hy:(r.symAt y).isSome=true) (hne:x≠y) :
    ((List.range 64).filter fun a=>(r.symAt a).isNone || (a == x || a == y)).length+((List.range 64).filter fun n=>(r.symAt n).isSome).length=66:=by
  have h1:=filter_parts (fun a=>(r.symAt a).isNone || (a == x || a == y)) (List.range 64)
  rw [List.length_range] at h1
  have e:(List.range 64).filter (fun a=>!((r.symAt a).isNone || (a == x || a == y)))=(((List.range 64).filter fun n=>(r.symAt n).isSome).filter fun a=>a != x).filter fun a=>a != y:=by
    rw [List.filter_filter,List.filter_filter]
    refine List.filter_congr fun a _=>?_
    cases h1:a == x <;> cases h2:a == y <;> cases h3:r.symAt a <;> simp_all
  have nd:((List.range 64).filter fun n=>(r.symAt n).isSome).Nodup:=List.Pairwise.filter _ List.nodup_range
  have q1:=drop1 nd (x:=x) (List.mem_filter.mpr ⟨List.mem_range.mpr (ok.sym_lt hx),hx⟩)
  have q2:=drop1 (x:=y) (List.Pairwise.filter (fun a=>a != x) nd) (List.mem_filter.mpr ⟨List.mem_filter.mpr ⟨List.mem_range.mpr (ok.sym_lt hy),hy⟩,by simpa using fun z=>hne z.symm⟩)
  rw [e] at h1
  omega
theorem room_iff {r:Nets.Rec} (ok:RecOk r) {a b:Nat} {P:Nets.Pair} (h:PairOk r a b P):(r.numbers P).length<P.rule.news.length↔¬ ((((List.range 64).filter fun n=>(r.symAt n).isSome).length:Int) - 2+(P.rule.news.length:Int)≤64):=by
  have q:=free_len ok (x:=P.x) (y:=P.y) (by rw [h.symX];rfl) (by rw [h.symY];rfl) h.ne
  unfold Nets.Rec.numbers Nets.AGENTS
  rw [List.length_take]
  omega
section
variable {P:Program} {w:World} {K:PySem.W.Frag} {mg:Str→Option Value} {base:Heap} {C CR:Addr}
def spFacing (C:Addr):Sp:=fun vs H Q _=>∃ (A:RecAd) (r:Nets.Rec) (a z:Nat),vs=[.ref A.p,nV a]∧NetRd C H A r∧r.at_ (4*a)=some z∧Q (nV (z / 4)) H
theorem sc_facing_agent:FnScope ["record", "agent"] ["record", "agent"] (defScope s_facing_agent):=⟨rfl,rfl,rfl,by decide +kernel,rfl,by decide +kernel,by decide +kernel⟩
theorem ok_facing_agent {f:Addr} {fd:FuncData} (F:Fun K "facing_agent" "facing_agent" s_facing_agent f fd) (T:Txt K mg C CR):FnOk P w K mg base CX0 1 f fd ["record", "agent"] (spFacing C):=by
  refine F.ok sc_facing_agent (fun vs H Q E h=>?_) (fun cdv A0 outer s H vs Q E hr h=>?_)
  · obtain ⟨A,r,a,z,rfl,_⟩:=h
    rfl
  · obtain ⟨A,r,a,z,rfl,h1,hz,k⟩:=h
    have hu:=hu_of hr
    refine ⟨_,(pss_one (ps_ret (pe_op op_fdiv (pe_dget hu (pe_fld (pv 0) rfl) (pe_op op_mul (pe_glV rfl T.c_PORTS_APART) (pv 1)) (fun _ _=>rfl)) (pe_glV rfl T.c_PORTS_APART)))),?_⟩
    have g:=h1.getJo (4*a)
    rw [hz] at g
    refine ⟨_,rfl,A.p,C,A.dx,_,_,rfl,h1.obj,T.cl,T.nJoined,recF_joined A,_,rfl,_,_,rfl,rfl,.inl ⟨by decide,by decide⟩,A.jo,nV z,rfl,(by show DGet H A.jo (V.int (4*(a:Int))) _;rw [show (4:Int)*(a:Int)=((4*a:Nat):Int) by omega];exact g),_,_,rfl,rfl,⟨by decide,by decide⟩,?_⟩
    exact qe k (vint (by omega))
def spRuleAt (C CR:Addr):Sp:=fun vs H Q _=>∃ (A:RecAd) (r:Nets.Rec) (a:Nat) (p:Nets.Pair),vs=[.ref A.p,nV a]∧RecAt C CR H A r∧RecOk r∧r.pairAt a=some p ∧
  ∀ (i:Nat) (d:RuleAd) H',Same H H'→A.rl[i]?=some d→r.rules[i]?=some p.rule→Q (.ref d.q) H'
theorem sc_rule_at:FnScope ["record", "lower"] ["record", "lower"] (defScope s_rule_at):=⟨rfl,rfl,rfl,by decide +kernel,rfl,by decide +kernel,by decide +kernel⟩
theorem ok_rule_at {f:Addr} {fd:FuncData} (F:Fun K "rule_at" "rule_at" s_rule_at f fd) (T:Txt K mg C CR) (D_facing_agent:Df P w K mg base "facing_agent" ["record", "agent"] 1 (spFacing C)) (D_rule_key:Df P w K mg base "rule_key" ["s", "t"] 1 spRuleKey):FnOk P w K mg base CX0 2 f fd ["record", "lower"] (spRuleAt C CR):=by
  refine F.ok sc_rule_at (fun vs H Q E h=>?_) (fun cdv A0 outer s H vs Q E hr h=>?_)
  · obtain ⟨A,r,a,p,rfl,_⟩:=h
    rfl
  · obtain ⟨A,r,a,p,rfl,h1,ok,hp,k⟩:=h
    have hu:=hu_of hr
    obtain ⟨b,po⟩:=pair_ok ok hp
    obtain ⟨sa,hsa⟩:=po.symA
    obtain ⟨sb,hsb⟩:=po.symB
    have ga:=h1.rd.getAg a
    rw [hsa] at ga
    have gb:=h1.rd.getAg b
    rw [hsb] at gb
    refine ⟨_,(pss_one (ps_ret (pe_dget hu (pe_fld (pv 0) rfl) (pe_callD D_rule_key (hr.mono (by decide)) rfl (pa_cons (pe_dget hu (pe_fld (pv 0) rfl) (pv 1) (fun _ _=>rfl)) (pa_cons (pe_dget hu (pe_fld (pv 0) rfl) (pe_callD D_facing_agent (hr.mono (by decide)) rfl (pa_cons (pv 0) (pa_cons (pv 1) pa_nil))) (fun _ _=>rfl)) pa_nil))) (fun _ _=>rfl)))),?_⟩
    refine ⟨_,rfl,A.p,C,A.dx,_,_,rfl,h1.obj,T.cl,T.nRules,recF_rules A,_,rfl,A.p,C,A.dx,_,_,rfl,h1.obj,T.cl,T.nAgents,recF_agents A,_,rfl,A.ag,nV sa,rfl,ga,
      _,rfl,A.p,C,A.dx,_,_,rfl,h1.obj,T.cl,T.nAgents,recF_agents A,_,rfl,_,rfl,A,r,a,4*b,rfl,h1.rd,po.at0,A.ag,nV sb,rfl,(by rw [show 4*b / 4=b by omega];exact gb),sa,sb,rfl,fun q hq=>?_⟩
    have s1:Same H (upd H q (.tup ((keyOf sa sb).map kV))):=Same.upd (Same.refl _) hq
    have h2:=h1.same s1
    rcases h1.look sa sb with ⟨q1,_⟩ | ⟨R,i,d,q1,q2,q3,q4⟩
    · rw [po.rf sa sb hsa hsb] at q1
      cases q1
    · rw [po.rf sa sb hsa hsb] at q1
      cases q1
      have g:=DGet.t h2.ru upd_same
      rw [q4] at g
      exact ⟨A.ru,.ref d.q,rfl,g,k i d _ s1 q2 q3⟩
def spHasRoom (C CR:Addr):Sp:=fun vs H Q _=>∃ (A:RecAd) (r:Nets.Rec) (a:Nat) (p:Nets.Pair),vs=[.ref A.p,nV a]∧RecAt C CR H A r∧RecOk r∧r.pairAt a=some p ∧
  ∀ H',Same H H'→Q (.bl (decide (¬ (r.numbers p).length<p.rule.news.length))) H'
theorem sc_has_room:FnScope ["record", "lower"] ["record", "lower"] (defScope s_has_room):=⟨rfl,rfl,rfl,by decide +kernel,rfl,by decide +kernel,by decide +kernel⟩
theorem ok_has_room {f:Addr} {fd:FuncData} (F:Fun K "has_room" "has_room" s_has_room f fd) (T:Txt K mg C CR) (D_rule_at:Df P w K mg base "rule_at" ["record", "lower"] 2 (spRuleAt C CR)):FnOk P w K mg base CX0 3 f fd ["record", "lower"] (spHasRoom C CR):=by
  refine F.ok sc_has_room (fun vs H Q E h=>?_) (fun cdv A0 outer s H vs Q E hr h=>?_)
  · obtain ⟨A,r,a,p,rfl,_⟩:=h
    rfl
  · obtain ⟨A,r,a,p,rfl,h1,ok,hp,k⟩:=h
    obtain ⟨b,po⟩:=pair_ok ok hp
    obtain ⟨kvs,hag,dag⟩:=h1.ag
    have hlen:=dag.len (B:=64) fun n hn=>ok.sym_lt hn
    refine ⟨_,(pss_one (ps_ret (pe_cmpR op_le (pe_op op_add (pe_op op_sub (pe_callB call_lenD (by rfl) T.b_len PySem.boot_len (pa_cons (pe_fld (pv 0) rfl) pa_nil)) pe_int) (pe_callB call_len_seq (by rfl) T.b_len PySem.boot_len (pa_cons (pe_fld (pe_callD D_rule_at (hr.mono (by decide)) rfl (pa_cons (pv 0) (pa_cons (pv 1) pa_nil))) rfl) pa_nil))) (pe_glV rfl T.c_AGENT_LIMIT) (nomark _)))),?_⟩
    refine ⟨_,rfl,A.p,C,A.dx,_,_,rfl,h1.obj,T.cl,T.nAgents,recF_agents A,A.ag,kvs,rfl,hag,_,_,rfl,rfl,_,rfl,_,rfl,A,r,a,p,rfl,h1,ok,hp,fun i d H' s1 e1 e2=>?_⟩
    have R:=(h1.same s1).rule i d _ e1 e2
    refine ⟨d.q,CR,d.dq,_,_,rfl,R.obj,T.clR,T.nSymbols,ruleF_symbols d p.rule,d.sy,_,rfl,.inl (SqL.of R.sy),_,_,rfl,rfl,_,_,rfl,rfl,?_⟩
    refine qe (k H' s1) (vbl (decide_eq_decide.mpr ?_))
    rw [room_iff ok po,← hlen,List.length_map]
    omega
def lowV (r:Nets.Rec):V:=match r.pairs.head? with
  | none=>.int (-1)
  | some a=>nV a
def spLowestPair (C CR:Addr):Sp:=fun vs H Q _=>∃ (A:RecAd) (r:Nets.Rec),vs=[.ref A.p]∧RecAt C CR H A r∧RecOk r∧∀ H',Same H H'→Q (lowV r) H'
theorem sc_lowest_pair:FnScope ["record", "agent"] ["record"] (defScope s_lowest_pair):=⟨rfl,rfl,rfl,by decide +kernel,rfl,by decide +kernel,by decide +kernel⟩
theorem ok_lowest_pair {f:Addr} {fd:FuncData} (F:Fun K "lowest_pair" "lowest_pair" s_lowest_pair f fd) (T:Txt K mg C CR) (D_is_pair:Df P w K mg base "is_pair" ["record", "agent"] 2 (spIsPair C CR)):FnOk P w K mg base CX0 3 f fd ["record"] (spLowestPair C CR):=by
  refine F.ok sc_lowest_pair (fun vs H Q E h=>?_) (fun cdv A0 outer s H vs Q E hr h=>?_)
  · obtain ⟨A,r,rfl,_⟩:=h
    rfl
  · obtain ⟨A,r,rfl,h1,ok,k⟩:=h
    have nd:=sc_lowest_pair.nd
    have hh:r.pairs.head?=(List.range 64).find? fun a=>(r.pairAt a).isSome:=List.head?_filter
    refine ⟨_,(pss_cons (ps_for PassesOwn.never rfl (pi_range1 rfl T.b_range (pa_cons (pe_glV rfl T.c_AGENT_LIMIT) pa_nil)) (pg_name (i:=1) nd rfl (Or.inl rfl)) (pss_one (ps_if (pt_val (pe_callD D_is_pair (hr.mono (by decide)) rfl (pa_cons (pv 0) (pa_cons (pv 1) pa_nil)))) (pss_one (ps_ret (pv 1))) pss_nil))) (pss_one (ps_ret (pe_glV rfl T.c_NO_PAIR)))),?_⟩
    refine ⟨64,rfl,by decide,by decide,for_range (n:=64) (fun j σ H'=>Same H H'∧(∃ b,σ=[some (.ref A.p),b])∧∀ q,q<j→(r.pairAt q).isSome=false)
      ⟨Same.refl _,⟨_,rfl⟩,fun q hq=>absurd hq (by omega)⟩ ?_ ?_⟩
    · rintro j σ H' hj ⟨s1,⟨b,rfl⟩,hq⟩
      refine ⟨_,rfl,_,rfl,A,r,j,v2 (z:=(0:Int)+(j:Int)) (by omega),h1.same s1,ok,fun H2 s2=>⟨_,rfl,?_⟩⟩
      cases hp:(r.pairAt j).isSome with
      | true =>
        refine iteT ⟨_,rfl,?_⟩
        refine qe (k H2 (s1.trans s2)) ?_
        have e:r.pairs.head?=some j:=by
          rw [hh]
          exact List.find?_range_eq_some.mpr ⟨hp,List.mem_range.mpr hj,fun q hq2=>by rw [hq q hq2];rfl⟩
        unfold lowV
        rw [e]
        exact vint (by omega)
      | false =>
        refine iteF ⟨s1.trans s2,⟨_,rfl⟩,fun q hq2=>?_⟩
        by_cases z:q=j
        · rw [z];exact hp
        · exact hq q (by omega)
    · rintro σ H' ⟨s1,⟨b,rfl⟩,hq⟩
      refine qe (k H' s1) ?_
      have e:r.pairs.head?=none:=by
        rw [hh]
        exact List.find?_range_eq_none.mpr fun q hq2=>by rw [hq q hq2];rfl
      unfold lowV
      rw [e]
end
def Wk (m o:Nat→Option Nat):Nat→Nat→Nat→Prop
  | 0,e,w=>m e=some w
  | k+1,e,w=>∃ y e',m e=some y∧o y=some e'∧Wk m o k e' w
section
variable {m o:Nat→Option Nat}
theorem Wk.snoc:∀ {k e y e' w:Nat},Wk m o k e y→o y=some e'→m e'=some w→Wk m o (k+1) e w
  | 0,e,y,e',w,h,h1,h2=>⟨y,e',h,h1,h2⟩
  | k+1,e,y,e',w,⟨u,v,a,b,c⟩,h1,h2=>⟨u,v,a,b,Wk.snoc c h1 h2⟩
theorem Wk.unsnoc:∀ {k e w:Nat},Wk m o (k+1) e w→∃ y e',Wk m o k e y∧o y=some e'∧m e'=some w
  | 0,e,w,⟨y,e',a,b,c⟩=>⟨y,e',a,b,c⟩
  | k+1,e,w,⟨u,v,a,b,c⟩=>by
    obtain ⟨y,e',h1,h2,h3⟩:=Wk.unsnoc c
    exact ⟨y,e',⟨u,v,a,b,h1⟩,h2,h3⟩
variable (hm:∀ x y,m x=some y→m y=some x) (ho:∀ x y,o x=some y→o y=some x)
include hm ho
theorem Wk.rev:∀ {k e w:Nat},Wk m o k e w→Wk m o k w e
  | 0,e,w,h=>hm _ _ h
  | k+1,e,w,⟨y,e',h1,h2,h3⟩=>Wk.snoc (Wk.rev h3) (ho _ _ h2) (hm _ _ h1)
omit hm ho in
theorem Wk.det:∀ {k k' e w w' : Nat},Wk m o k e w→Wk m o k' e w'→o w=none→o w'=none→w=w'
  | 0,0,e,w,w',h,h',_,_=>by
    have h:m e=some w:=h
    have h' : m e=some w':=h'
    rw [h] at h'
    exact Option.some.inj h'
  | 0,k'+1,e,w,w',h,⟨y,e',a,b,c⟩,hw,_=>by
    have h:m e=some w:=h
    rw [h] at a
    cases a
    rw [hw] at b
    cases b
  | k+1,0,e,w,w',⟨y,e',a,b,c⟩,h,_,hw=>by
    have h:m e=some w':=h
    rw [h] at a
    cases a
    rw [hw] at b
    cases b
  | k+1,k'+1,e,w,w',⟨y,e',a,b,c⟩,⟨y2,e2,a2,b2,c2⟩,hw,hw'=>by
    rw [a] at a2
    cases a2
    rw [b] at b2
    cases b2
    exact Wk.det c c2 hw hw'
theorem inj_of {f:Nat→Option Nat} (hf:∀ x y,f x=some y→f y=some x) {a b c:Nat} (h1:f a=some c) (h2:f b=some c):a=b:=by
  have q:=(hf _ _ h1).symm.trans (hf _ _ h2)
  exact Option.some.inj q
theorem Wk.noloop (hmf:∀ x,m x≠some x) (hof:∀ x,o x≠some x):∀ {k e:Nat},¬ Wk m o k e e
  | 0,e,h=>hmf e h
  | 1,e,⟨y,e',h1,h2,h3⟩=>by
    have h3:m e'=some e:=h3
    have q:=inj_of hm ho hm h3 (hm _ _ h1)
    subst q
    exact hof _ h2
  | k+2,e,⟨y,e',h1,h2,h3⟩=>by
    obtain ⟨y',e'',q1,q2,q3⟩:=Wk.unsnoc h3
    have e1:=inj_of hm ho hm q3 (hm _ _ h1)
    subst e1
    have e2:=inj_of hm ho ho q2 (ho _ _ h2)
    subst e2
    exact Wk.noloop hmf hof q1
theorem Wk.uniq {e:Nat} (he:o e=none):∀ {i j w:Nat},Wk m o i e w→Wk m o j e w→i=j
  | 0,0,w,_,_=>rfl
  | 0,j+1,w,h,h'=>by
    obtain ⟨y,e',q1,q2,q3⟩:=Wk.unsnoc h'
    have z:=inj_of hm ho hm h q3
    subst z
    rw [ho _ _ q2] at he
    cases he
  | i+1,0,w,h',h=>by
    obtain ⟨y,e',q1,q2,q3⟩:=Wk.unsnoc h'
    have z:=inj_of hm ho hm h q3
    subst z
    rw [ho _ _ q2] at he
    cases he
  | i+1,j+1,w,h,h'=>by
    obtain ⟨y,e',q1,q2,q3⟩:=Wk.unsnoc h
    obtain ⟨y2,e2,p1,p2,p3⟩:=Wk.unsnoc h'
    have z:=inj_of hm ho hm q3 p3
    subst z
    have z:=inj_of hm ho ho q2 p2
    subst z
    rw [Wk.uniq he q1 p1]
omit hm ho in
theorem nd_len:∀ {l S:List Nat},l.Nodup→(∀ x∈l,x∈S)→l.length≤S.length
  | [],_,_,_=>Nat.zero_le _
  | a::l,S,nd,h=>by
    obtain ⟨n1,n2⟩:=List.nodup_cons.mp nd
    have ha:=h a List.mem_cons_self
    have q:=nd_len (l:=l) (S:=S.erase a) n2 fun x hx=>by
      refine (List.mem_erase_of_ne ?_).mpr (h x (List.mem_cons_of_mem _ hx))
      rintro rfl
      exact n1 hx
    rw [List.length_erase_of_mem ha] at q
    have:=List.length_pos_of_mem ha
    rw [List.length_cons]
    omega
theorem Wk.ends {e:Nat} (S:List Nat) (hS:∀ x y,o x=some y→x∈S) (ht:∀ x y,o x=some y→(m y).isSome=true) (he:o e=none) (hme:(m e).isSome=true):∃ k w,k≤S.length∧Wk m o k e w∧o w=none:=by
  have main:∀ n,(∃ k w,k≤n∧Wk m o k e w∧o w=none)∨∃ (l:List Nat) (w:Nat),l.length=n+1∧l.Nodup∧(∀ x∈l,(o x).isSome=true∧∃ k,k≤n∧Wk m o k e x)∧Wk m o n e w∧(o w).isSome=true:=by
    intro n
    induction n with
    | zero =>
      obtain ⟨w,hw⟩:=Option.isSome_iff_exists.mp hme
      cases q:o w with
      | none=>exact .inl ⟨0,w,Nat.le_refl _,hw,q⟩
      | some z=>exact .inr ⟨[w],w,rfl,by simp,fun x hx=>by
          have e:x=w:=by simpa using hx
          subst e
          exact ⟨by rw [q];rfl,0,Nat.le_refl _,hw⟩,hw,by rw [q];rfl⟩
    | succ n ih =>
      rcases ih with ⟨k,w,h1,h2,h3⟩ | ⟨l,w,h1,h2,h3,h4,h5⟩
      · exact .inl ⟨k,w,by omega,h2,h3⟩
      · obtain ⟨e',he'⟩:=Option.isSome_iff_exists.mp h5
        obtain ⟨w',hw'⟩:=Option.isSome_iff_exists.mp (ht _ _ he')
        have hn:=Wk.snoc h4 he' hw'
        cases q:o w' with
        | none=>exact .inl ⟨n+1,w',Nat.le_refl _,hn,q⟩
        | some z =>
          refine .inr ⟨w'::l,w',by rw [List.length_cons,h1],List.nodup_cons.mpr ⟨fun hx=>?_,h2⟩,fun x hx=>?_,hn,by rw [q];rfl⟩
          · obtain ⟨_,k,hk,hk2⟩:=h3 w' hx
            have:=Wk.uniq hm ho he hk2 hn
            omega
          · rcases List.mem_cons.mp hx with z2 | z2
            · subst z2
              exact ⟨by rw [q];rfl,n+1,Nat.le_refl _,hn⟩
            · obtain ⟨a,k,hk,hk2⟩:=h3 x z2
              exact ⟨a,k,by omega,hk2⟩
  rcases main S.length with h | ⟨l,w,h1,h2,h3,_⟩
  · exact h
  · have q:=nd_len (S:=S) h2 fun x hx=>by
      obtain ⟨a,_⟩:=h3 x hx
      obtain ⟨y,hy⟩:=Option.isSome_iff_exists.mp a
      exact hS x y hy
    omega
end
def IsOld (r:Nets.Rec) (P:Nets.Pair) (e:Nat):Prop:=(64<e∧e≤64+r.of P.rule.s)∨(80<e∧e≤80+r.of P.rule.t)
instance (r:Nets.Rec) (P:Nets.Pair) (e:Nat):Decidable (IsOld r P e):=by unfold IsOld;infer_instance
def placeF (r:Nets.Rec) (P:Nets.Pair) (p:Nat):Option Nat:=if p / 4=P.x∧1≤p%4∧p%4≤r.of P.rule.s then some (64+p%4) else if p / 4=P.y∧1≤p%4∧p%4≤r.of P.rule.t then some (80+p%4) else none
def onw (r:Nets.Rec) (P:Nets.Pair) (e:Nat):Option Nat:=if IsOld r P e then (r.at_ (Nets.oldPort P e)).bind (placeF r P) else none
def outF (r:Nets.Rec) (P:Nets.Pair) (e:Nat):Option Nat:=if IsOld r P e then (r.at_ (Nets.oldPort P e)).bind (fun z=>if (placeF r P z).isNone=true then some z else none) else none
def endF (r:Nets.Rec) (P:Nets.Pair) (ns:List Nat) (e:Nat):Option Nat:=if e<64 then (if e∈newPl r P.rule.news then some (Nets.newPort ns e) else none) else outF r P e
structure Stp (r:Nets.Rec) (a b:Nat) (P:Nets.Pair):Prop where
  ok:RecOk r
  po:PairOk r a b P
  ru:RuleOk r P.rule
  wh:r.whole=true
  room:¬ (r.numbers P).length<P.rule.news.length
section
variable {r:Nets.Rec} {a b:Nat} {P:Nets.Pair}
theorem IsOld.cases (st:Stp r a b P) {e:Nat} (h:IsOld r P e):(e<80∧64<e∧e≤64+r.of P.rule.s∧e≤67)∨(80<e∧e≤80+r.of P.rule.t∧e≤83):=by
  have h1:=of_le st.ok P.rule.s
  have h2:=of_le st.ok P.rule.t
  rcases h with h | h <;> omega
theorem Stp.x64 (st:Stp r a b P):P.x<64:=st.ok.sym_lt (by rw [st.po.symX];rfl)
theorem Stp.y64 (st:Stp r a b P):P.y<64:=st.ok.sym_lt (by rw [st.po.symY];rfl)
theorem old_place (st:Stp r a b P) {e:Nat} (h:IsOld r P e):placeF r P (Nets.oldPort P e)=some e:=by
  have ne:=st.po.ne
  rcases h.cases st with c | c
  · have e1:Nets.oldPort P e=4*P.x+(e - 64):=by unfold Nets.oldPort;rw [if_pos c.1]
    rw [e1]
    unfold placeF
    rw [if_pos (by omega)]
    exact congrArg some (by omega)
  · have e1:Nets.oldPort P e=4*P.y+(e - 80):=by unfold Nets.oldPort;rw [if_neg (by omega)]
    rw [e1]
    unfold placeF
    rw [if_neg (by omega),if_pos (by omega)]
    exact congrArg some (by omega)
theorem place_old (st:Stp r a b P) {p e:Nat} (h:placeF r P p=some e):IsOld r P e∧Nets.oldPort P e=p∧Nets.endOf P p=e∧Nets.outside P p=false:=by
  have ne:=st.po.ne
  have hx:=st.x64
  have hy:=st.y64
  have os:=of_le st.ok P.rule.s
  have ot:=of_le st.ok P.rule.t
  unfold placeF at h
  by_cases c:p / 4=P.x∧1≤p%4∧p%4≤r.of P.rule.s
  · rw [if_pos c] at h
    cases h
    refine ⟨.inl (by omega),?_,?_,?_⟩
    · unfold Nets.oldPort
      rw [if_pos (by omega)]
      omega
    · unfold Nets.endOf
      rw [if_pos c.1]
    · unfold Nets.outside Nets.NAMES
      rw [decide_eq_false (by omega),c.1]
      simp
  · rw [if_neg c] at h
    by_cases c2:p / 4=P.y∧1≤p%4∧p%4≤r.of P.rule.t
    · rw [if_pos c2] at h
      cases h
      refine ⟨.inr (by omega),?_,?_,?_⟩
      · unfold Nets.oldPort
        rw [if_neg (by omega)]
        omega
      · unfold Nets.endOf
        rw [if_neg (by omega)]
      · unfold Nets.outside Nets.NAMES
        rw [decide_eq_false (by omega),c2.1]
        simp
    · rw [if_neg c2] at h
      cases h
theorem Stp.at0x (st:Stp r a b P):r.at_ (4*P.x)=some (4*P.y):=by
  have h:=st.po.at0
  have q:=(st.ok.linkOk _ _ h).2.2.1
  rcases st.po.xy with c | c
  · rw [c.1,c.2.1];exact h
  · rw [c.1,c.2.1];exact q
theorem Stp.at0y (st:Stp r a b P):r.at_ (4*P.y)=some (4*P.x):=(st.ok.linkOk _ _ st.at0x).2.2.1
theorem inside (st:Stp r a b P) {p z:Nat} (h:r.at_ p=some z) (h1:p≠4*P.x) (h2:p≠4*P.y) (ho:Nets.outside P z=false):∃ e,placeF r P z=some e:=by
  obtain ⟨l1,l2,l3,l4⟩:=st.ok.linkOk _ _ h
  have n1:z≠4*P.x:=fun e=>by
    rw [e,st.at0x] at l3
    exact h2 (Option.some.inj l3).symm
  have n2:z≠4*P.y:=fun e=>by
    rw [e,st.at0y] at l3
    exact h1 (Option.some.inj l3).symm
  unfold Nets.outside Nets.NAMES at ho
  rw [Bool.or_eq_false_iff,decide_eq_false_iff_not] at ho
  obtain ⟨t,ht,hj⟩:=RecOk.port_sym l2 (by omega)
  have hxy:z / 4=P.x∨z / 4=P.y:=by
    have q:=ho.2
    by_cases c:z / 4=P.x
    · exact .inl c
    · refine .inr ?_
      by_cases c2:z / 4=P.y
      · exact c2
      · rw [bne_iff_ne.mpr c,bne_iff_ne.mpr c2] at q
        cases q
  unfold placeF
  rcases hxy with c | c
  · rw [c,st.po.symX] at ht
    cases ht
    exact ⟨_,if_pos ⟨c,by omega,hj⟩⟩
  · rw [c,st.po.symY] at ht
    cases ht
    exact ⟨80+z%4,by rw [if_neg (by have:=st.po.ne;omega),if_pos ⟨c,by omega,hj⟩]⟩
theorem oldPort_mod (st:Stp r a b P) {e:Nat} (h:IsOld r P e):Nets.oldPort P e≠4*P.x∧Nets.oldPort P e≠4*P.y:=by
  unfold Nets.oldPort
  rcases h.cases st with c | c
  · rw [if_pos c.1];omega
  · rw [if_neg (by omega)];omega
theorem old_at (st:Stp r a b P) {e:Nat} (h:IsOld r P e):∃ z,r.at_ (Nets.oldPort P e)=some z:=by
  refine Option.isSome_iff_exists.mp ?_
  have wi:=(whole_iff st.ok).mp st.wh
  unfold Nets.oldPort
  rcases h.cases st with c | c
  · rw [if_pos c.1]
    exact wi P.x _ _ st.po.symX (by omega)
  · rw [if_neg (by omega)]
    exact wi P.y _ _ st.po.symY (by omega)
theorem flat_iff (st:Stp r a b P) {x:Nat}:x∈flat P.rule.wires↔x∈newPl r P.rule.news∨IsOld r P x:=by
  rw [← st.ru.made.perm.mem_iff]
  unfold needed
  rw [List.mem_append,List.mem_append,List.mem_map,List.mem_map]
  constructor
  · rintro (h | ⟨j,hj,rfl⟩ | ⟨j,hj,rfl⟩)
    · exact .inl h
    · have:=List.mem_range.mp hj
      exact .inr (.inl (by omega))
    · have:=List.mem_range.mp hj
      exact .inr (.inr (by omega))
  · rintro (h | h | h)
    · exact .inl h
    · exact .inr (.inl ⟨x - 65,List.mem_range.mpr (by omega),by omega⟩)
    · exact .inr (.inr ⟨x - 81,List.mem_range.mpr (by omega),by omega⟩)
theorem new_lt (st:Stp r a b P) {x:Nat} (h:x∈newPl r P.rule.news):x<24:=by
  have q:=newPl_lt st.ok h
  have:=st.ru.made.n6
  omega
theorem nd_ne:∀ {ws:List (Nat × Nat)} {u:Nat × Nat},(flat ws).Nodup→u∈ws→u.1≠u.2
  | v::ws,u,nd,h=>by
    rw [flat_cons] at nd
    obtain ⟨n1,nd2⟩:=List.nodup_cons.mp nd
    rcases List.mem_cons.mp h with z | z
    · subst z
      exact fun z=>n1 (by rw [z];exact List.mem_cons_self)
    · exact nd_ne (List.nodup_cons.mp nd2).2 z
theorem Stp.mInv (st:Stp r a b P):∀ x y,otherW P.rule.wires x=some y→otherW P.rule.wires y=some x:=fun x y h=>otherW_inv st.ru.made.nd h
theorem Stp.mNe (st:Stp r a b P):∀ x,otherW P.rule.wires x≠some x:=fun x h=>by
  obtain ⟨u,hu,q⟩:=otherW_mem h
  have n:=nd_ne st.ru.made.nd hu
  rcases q with q | q <;> omega
theorem onw_some (st:Stp r a b P) {x y:Nat} (h:onw r P x=some y):IsOld r P x∧IsOld r P y∧r.at_ (Nets.oldPort P x)=some (Nets.oldPort P y):=by
  unfold onw at h
  by_cases c:IsOld r P x
  · rw [if_pos c] at h
    obtain ⟨z,hz,hp⟩:=Option.bind_eq_some_iff.mp h
    obtain ⟨q1,q2,_⟩:=place_old st hp
    exact ⟨c,q1,by rw [q2];exact hz⟩
  · rw [if_neg c] at h
    cases h
theorem onw_of (st:Stp r a b P) {x y:Nat} (hx:IsOld r P x) (hy:IsOld r P y) (h:r.at_ (Nets.oldPort P x)=some (Nets.oldPort P y)):onw r P x=some y:=by
  unfold onw
  rw [if_pos hx,h]
  exact old_place st hy
theorem Stp.oInv (st:Stp r a b P):∀ x y,onw r P x=some y→onw r P y=some x:=fun x y h=>by
  obtain ⟨h1,h2,h3⟩:=onw_some st h
  exact onw_of st h2 h1 (st.ok.linkOk _ _ h3).2.2.1
theorem Stp.oNe (st:Stp r a b P):∀ x,onw r P x≠some x:=fun x h=>by
  obtain ⟨h1,h2,h3⟩:=onw_some st h
  exact (st.ok.linkOk _ _ h3).2.2.2 rfl
theorem Stp.mSome (st:Stp r a b P) {x:Nat}:(otherW P.rule.wires x).isSome=true↔x∈flat P.rule.wires:=otherW_some st.ru.made.nd
theorem Stp.far (st:Stp r a b P) {e:Nat} (he:e∈flat P.rule.wires) (ho:onw r P e=none):∃ k w,k≤6∧Wk (otherW P.rule.wires) (onw r P) k e w∧onw r P w=none:=by
  refine Wk.ends (S:=[65,66,67,81,82,83]) st.mInv st.oInv (fun x y h=>?_) (fun x y h=>?_) ho (st.mSome.mpr he)
  · obtain ⟨h1,_⟩:=onw_some st h
    have c:=h1.cases st
    have h:x=65∨x=66∨x=67∨x=81∨x=82∨x=83:=by omega
    simpa using h
  · obtain ⟨_,h1,_⟩:=onw_some st h
    exact st.mSome.mpr ((flat_iff st).mpr (.inr h1))
theorem walk_mem (st:Stp r a b P):∀ {k e w:Nat},Wk (otherW P.rule.wires) (onw r P) k e w→w∈flat P.rule.wires
  | 0,e,w,h=>st.mSome.mp (by rw [st.mInv _ _ h];rfl)
  | k+1,e,w,h=>by
    obtain ⟨y,e',_,_,q⟩:=Wk.unsnoc h
    exact st.mSome.mp (by rw [st.mInv _ _ q];rfl)
theorem end_new (st:Stp r a b P) {ns:List Nat} {e:Nat} (h:e∈newPl r P.rule.news):endF r P ns e=some (Nets.newPort ns e):=by
  have:=new_lt st h
  unfold endF
  rw [if_pos (by omega),if_pos h]
theorem end_old (st:Stp r a b P) {ns:List Nat} {e z:Nat} (h:IsOld r P e) (hz:r.at_ (Nets.oldPort P e)=some z) (hp:placeF r P z=none):endF r P ns e=some z:=by
  have c:=h.cases st
  unfold endF outF
  rw [if_neg (by omega),if_pos h,hz]
  show (if (placeF r P z).isNone=true then some z else none)=some z
  rw [hp];rfl
theorem end_some (st:Stp r a b P) {ns:List Nat} {e q:Nat} (h:endF r P ns e=some q) :
    (e∈newPl r P.rule.news∧e<24∧q=Nets.newPort ns e)∨(IsOld r P e∧r.at_ (Nets.oldPort P e)=some q∧placeF r P q=none):=by
  unfold endF at h
  by_cases c:e<64
  · rw [if_pos c] at h
    by_cases c2:e∈newPl r P.rule.news
    · rw [if_pos c2] at h
      exact .inl ⟨c2,new_lt st c2,(Option.some.inj h).symm⟩
    · rw [if_neg c2] at h;cases h
  · rw [if_neg c] at h
    unfold outF at h
    by_cases c2:IsOld r P e
    · rw [if_pos c2] at h
      obtain ⟨z,hz,hp⟩:=Option.bind_eq_some_iff.mp h
      by_cases c3:(placeF r P z).isNone=true
      · rw [if_pos c3] at hp
        cases hp
        exact .inr ⟨c2,hz,Option.isNone_iff_eq_none.mp c3⟩
      · rw [if_neg c3] at hp;cases hp
    · rw [if_neg c2] at h;cases h
theorem end_flat (st:Stp r a b P) {ns:List Nat} {e q:Nat} (h:endF r P ns e=some q):e∈flat P.rule.wires∧onw r P e=none:=by
  rcases end_some st h with ⟨h1,h2,_⟩ | ⟨h1,h2,h3⟩
  · refine ⟨(flat_iff st).mpr (.inl h1),?_⟩
    unfold onw
    rw [if_neg (fun z=>by have:=IsOld.cases st z;omega)]
  · refine ⟨(flat_iff st).mpr (.inr h1),?_⟩
    unfold onw
    rw [if_pos h1,h2]
    exact h3
theorem end_is (st:Stp r a b P) (ns:List Nat) {w:Nat} (h:w∈flat P.rule.wires) (ho:onw r P w=none):∃ z,endF r P ns w=some z:=by
  rcases (flat_iff st).mp h with c | c
  · exact ⟨_,end_new st c⟩
  · obtain ⟨z,hz⟩:=old_at st c
    unfold onw at ho
    rw [if_pos c,hz] at ho
    exact ⟨z,end_old st c hz ho⟩
theorem leads_eq (st:Stp r a b P) (ns:List Nat):∀ {k e w f:Nat},Wk (otherW P.rule.wires) (onw r P) k e w→onw r P w=none→k<f→r.leads P ns f e=endF r P ns w
  | 0,e,w,0,_,_,h=>absurd h (by omega)
  | k+1,e,w,0,_,_,h=>absurd h (by omega)
  | 0,e,w,f+1,h,ho,_=>by
    have hm:P.rule.other e=some w:=h
    have hw:=walk_mem st (k:=0) h
    unfold Nets.Rec.leads
    rw [hm]
    show (if w<64 then _ else _)=_
    rcases (flat_iff st).mp hw with c | c
    · have:=new_lt st c
      rw [if_pos (by omega),end_new st c]
    · have c2:=c.cases st
      obtain ⟨z,hz⟩:=old_at st c
      have hp:placeF r P z=none:=by
        unfold onw at ho
        rw [if_pos c,hz] at ho
        exact ho
      rw [if_neg (by omega),hz,end_old st c hz hp]
      show (if Nets.outside P z=true then some z else _)=_
      refine if_pos ?_
      cases hq:Nets.outside P z with
      | true=>rfl
      | false =>
        obtain ⟨n1,n2⟩:=oldPort_mod st c
        obtain ⟨e,he⟩:=inside st hz n1 n2 hq
        rw [hp] at he
        cases he
  | k+1,e,w,f+1,⟨y,e',h1,h2,h3⟩,ho,hk=>by
    have hm:P.rule.other e=some y:=h1
    obtain ⟨o1,o2,o3⟩:=onw_some st h2
    have c:=o1.cases st
    have pl:=place_old st (old_place st o2)
    unfold Nets.Rec.leads
    rw [hm]
    show (if y<64 then _ else _)=_
    rw [if_neg (by omega),o3]
    show (if Nets.outside P (Nets.oldPort P e')=true then _ else _)=_
    rw [if_neg (by rw [pl.2.2.2];simp),pl.2.2.1]
    exact leads_eq st ns h3 ho (by omega)
end
def freeL (r:Nets.Rec) (P:Nets.Pair):List Nat:=(List.range 64).filter fun (a:Nat)=>(r.symAt a).isNone || (a == P.x || a == P.y)
theorem numbers_eq (r:Nets.Rec) (P:Nets.Pair):r.numbers P=(freeL r P).take P.rule.news.length:=rfl
theorem freeL_mem {r:Nets.Rec} {P:Nets.Pair} {n:Nat}:n∈freeL r P↔n<64∧(r.symAt n=none∨n=P.x∨n=P.y):=by
  unfold freeL
  rw [List.mem_filter,List.mem_range,Bool.or_eq_true,Bool.or_eq_true,beq_iff_eq,beq_iff_eq,Option.isNone_iff_eq_none]
theorem freeL_sorted (r:Nets.Rec) (P:Nets.Pair):(freeL r P).Pairwise (· < ·):=List.Pairwise.filter _ List.pairwise_lt_range
theorem getD_map_range {f:Nat→Option Nat} (n i:Nat):((List.range n).map f).getD i none=if i<n then f i else none:=by
  rw [List.getD_eq_getElem?_getD,List.getElem?_map]
  by_cases h:i<n
  · rw [if_pos h,List.getElem?_range h];rfl
  · rw [if_neg h,List.getElem?_eq_none (by rw [List.length_range];omega)];rfl
section
variable {r:Nets.Rec} {a b:Nat} {P:Nets.Pair}
theorem Stp.nsLen (st:Stp r a b P):(r.numbers P).length=P.rule.news.length:=by
  have h:=st.room
  have q:(r.numbers P).length≤P.rule.news.length:=by
    rw [numbers_eq,List.length_take]
    omega
  omega
theorem nsSorted (r:Nets.Rec) (P:Nets.Pair):(r.numbers P).Pairwise (· < ·):=List.Pairwise.sublist (List.take_sublist _ _) (freeL_sorted r P)
theorem nsNd (r:Nets.Rec) (P:Nets.Pair):(r.numbers P).Nodup:=(nsSorted r P).imp fun h=>Nat.ne_of_lt h
theorem nsMem {n:Nat} (h:n∈r.numbers P):n<64∧(r.symAt n=none∨n=P.x∨n=P.y):=freeL_mem.mp (List.mem_of_mem_take h)
theorem stepped_sym (r:Nets.Rec) (P:Nets.Pair) (n:Nat):(r.stepped P).symAt n=if n<64 then (if (r.numbers P).contains n=true then P.rule.news[(r.numbers P).idxOf n]? else if n=P.x∨n=P.y then none else r.symAt n) else none:=by
  show ((List.range 64).map fun (a:Nat)=>if (r.numbers P).contains a=true then P.rule.news[(r.numbers P).idxOf a]? else if a=P.x∨a=P.y then none else r.symAt a).getD n none=_
  rw [getD_map_range]
theorem stepped_at (r:Nets.Rec) (P:Nets.Pair) (p:Nat):(r.stepped P).at_ p=if p<272 then (if p<256∧(r.numbers P).contains (p / 4)=true then r.leads P (r.numbers P) 20 (4*(r.numbers P).idxOf (p / 4)+p%4) else if Nets.outside P p=false then none else match r.at_ p with
    | none=>none
    | some q=>if Nets.outside P q=true then some q else r.leads P (r.numbers P) 20 (Nets.endOf P q)) else none:=by
  show ((List.range 272).map fun (p:Nat)=>if p<256∧(r.numbers P).contains (p / 4)=true then r.leads P (r.numbers P) 20 (4*(r.numbers P).idxOf (p / 4)+p%4) else if Nets.outside P p=false then none else match r.at_ p with
    | none=>none
    | some q=>if Nets.outside P q=true then some q else r.leads P (r.numbers P) 20 (Nets.endOf P q)).getD p none=_
  rw [getD_map_range]
theorem outside_iff {p:Nat}:Nets.outside P p=true↔256≤p∨(p / 4≠P.x∧p / 4≠P.y):=by
  unfold Nets.outside Nets.NAMES
  rw [Bool.or_eq_true,Bool.and_eq_true,decide_eq_true_eq,bne_iff_ne,bne_iff_ne]
theorem notNew (st:Stp r a b P) {q:Nat} (hp:r.isPort q=true) (ho:Nets.outside P q=true) (hq:q<256):(r.numbers P).contains (q / 4)=false:=by
  rw [← Bool.not_eq_true,List.contains_iff_mem]
  intro hm
  obtain ⟨_,h⟩:=nsMem hm
  obtain ⟨t,ht,_⟩:=RecOk.port_sym hp hq
  rw [outside_iff] at ho
  rcases h with h | h | h
  · rw [h] at ht;cases ht
  · omega
  · omega
theorem place_out (st:Stp r a b P) {p q:Nat} (h:r.at_ p=some q) (h1:p≠4*P.x) (h2:p≠4*P.y):placeF r P q=none↔Nets.outside P q=true:=by
  constructor
  · intro hp
    cases ho:Nets.outside P q with
    | true=>rfl
    | false =>
      obtain ⟨e,he⟩:=inside st h h1 h2 ho
      rw [hp] at he;cases he
  · intro ho
    cases hp:placeF r P q with
    | none=>rfl
    | some e =>
      have:=(place_old st hp).2.2.2
      rw [ho] at this;cases this
theorem nsGet (st:Stp r a b P) {i:Nat} (h:i<P.rule.news.length):∃ n,(r.numbers P)[i]?=some n∧n∈r.numbers P∧n<64∧(r.numbers P).idxOf n=i∧(r.numbers P).getD i 0=n:=by
  have hl:i<(r.numbers P).length:=by rw [st.nsLen];exact h
  refine ⟨(r.numbers P)[i],List.getElem?_eq_getElem hl,List.getElem_mem hl,(nsMem (List.getElem_mem hl)).1,(nsNd r P).idxOf_getElem i hl,?_⟩
  rw [List.getD_eq_getElem?_getD,List.getElem?_eq_getElem hl];rfl
theorem newPort_facts (st:Stp r a b P) {e:Nat} (h:e∈newPl r P.rule.news):∃ n s,(r.numbers P)[e / 4]?=some n∧P.rule.news[e / 4]?=some s∧e%4≤r.of s∧Nets.newPort (r.numbers P) e=4*n+e%4∧n<64∧n∈r.numbers P∧(r.numbers P).idxOf n=e / 4:=by
  have h2:=(mem_newPl st.ok P.rule.news (e / 4) (e%4) (by omega)).mp (by rw [show 4*(e / 4)+e%4=e by omega];exact h)
  obtain ⟨s,hs,hj⟩:=h2
  have hi:=(List.getElem?_eq_some_iff.mp hs).1
  obtain ⟨n,h1,h3,h4,h5,h6⟩:=nsGet st hi
  refine ⟨n,s,h1,hs,hj,?_,h4,h3,h5⟩
  unfold Nets.newPort
  rw [h6]
theorem L1 (st:Stp r a b P) {e q:Nat} (h:endF r P (r.numbers P) e=some q):∃ k w z,k≤6∧Wk (otherW P.rule.wires) (onw r P) k e w∧onw r P w=none∧endF r P (r.numbers P) w=some z∧(r.stepped P).at_ q=some z:=by
  obtain ⟨h1,h2⟩:=end_flat st h
  obtain ⟨k,w,hk,hw,ho⟩:=st.far h1 h2
  obtain ⟨z,hz⟩:=end_is st (r.numbers P) (walk_mem st hw) ho
  have ld:=leads_eq st (r.numbers P) (f:=20) hw ho (by omega)
  refine ⟨k,w,z,hk,hw,ho,hz,?_⟩
  rw [stepped_at]
  rcases end_some st h with ⟨c1,c2,c3⟩ | ⟨c1,c2,c3⟩
  · obtain ⟨n,s,g1,g2,g3,g4,g5,g6,g7⟩:=newPort_facts st c1
    rw [g4] at c3
    have e1:q / 4=n:=by omega
    have e2:q%4=e%4:=by omega
    rw [if_pos (by omega),if_pos ⟨by omega,by rw [e1];exact List.contains_iff_mem.mpr g6⟩,e1,e2,g7,show 4*(e / 4)+e%4=e by omega,ld]
    exact hz
  · obtain ⟨n1,n2⟩:=oldPort_mod st c1
    have ho:=(place_out st c2 n1 n2).mp c3
    obtain ⟨l1,l2,l3,l4⟩:=st.ok.linkOk _ _ c2
    have pl:=place_old st (old_place st c1)
    rw [if_pos (st.ok.port_lt l2),if_neg (fun z=>by rw [notNew st l2 ho z.1] at z;exact absurd z.2 (by simp)),if_neg (by rw [ho];simp),l3]
    show (if Nets.outside P (Nets.oldPort P e)=true then _ else _)=_
    rw [if_neg (by rw [pl.2.2.2];simp),pl.2.2.1,ld]
    exact hz
def baseF (r:Nets.Rec) (P:Nets.Pair) (q:Nat):Option Nat:=if Nets.outside P q=true then r.at_ q else none
theorem L2_ (st:Stp r a b P) {q:Nat} (h:∀ e,endF r P (r.numbers P) e≠some q):(r.stepped P).at_ q=baseF r P q:=by
  have big:r.at_ q≠none→q<272:=fun z=>st.ok.at_lt (by cases e:r.at_ q with | none=>exact absurd e z | some y=>rfl)
  rw [stepped_at]
  unfold baseF
  by_cases c0:q<272
  · rw [if_pos c0]
    by_cases c1:q<256∧(r.numbers P).contains (q / 4)=true
    · rw [if_pos c1]
      have hm:=List.contains_iff_mem.mp c1.2
      obtain ⟨g1,g2⟩:=nsMem hm
      have hi:=List.idxOf_lt_length_of_mem hm
      have hne:4*(r.numbers P).idxOf (q / 4)+q%4∉newPl r P.rule.news:=fun z=>by
        have e1:=end_new st (ns:=r.numbers P) z
        have e2:Nets.newPort (r.numbers P) (4*(r.numbers P).idxOf (q / 4)+q%4)=q:=by
          unfold Nets.newPort
          rw [show (4*(r.numbers P).idxOf (q / 4)+q%4) / 4=(r.numbers P).idxOf (q / 4) by omega,List.getD_eq_getElem?_getD,List.getElem?_eq_getElem hi,List.getElem_idxOf hi]
          show 4*(q / 4)+_=q
          omega
        rw [e2] at e1
        exact h _ e1
      have h6:=st.ru.made.n6
      have hl:=st.nsLen
      have hno:P.rule.other (4*(r.numbers P).idxOf (q / 4)+q%4)=none:=otherW_none fun z=>by
        rcases (flat_iff st).mp z with z | z
        · exact hne z
        · have:=z.cases st
          omega
      have e1:r.leads P (r.numbers P) 20 (4*(r.numbers P).idxOf (q / 4)+q%4)=none:=by
        unfold Nets.Rec.leads
        rw [hno]
      rw [e1]
      by_cases c2:Nets.outside P q=true
      · rw [if_pos c2]
        cases e2:r.at_ q with
        | none=>rfl
        | some y =>
          have z:=notNew st (st.ok.linkOk _ _ e2).1 c2 c1.1
          rw [c1.2] at z;cases z
      · rw [if_neg c2]
    · rw [if_neg c1]
      cases c2:Nets.outside P q with
      | false=>rw [if_pos rfl,if_neg (by simp)]
      | true =>
        rw [if_neg (by simp),if_pos rfl]
        cases e2:r.at_ q with
        | none=>rfl
        | some z =>
          show (if Nets.outside P z=true then some z else _)=some z
          cases c3:Nets.outside P z with
          | true=>rw [if_pos rfl]
          | false =>
            have o:=outside_iff.mp c2
            have hx:=st.x64
            have hy:=st.y64
            have n1:q≠4*P.x:=by omega
            have n2:q≠4*P.y:=by omega
            obtain ⟨e,he⟩:=inside st e2 n1 n2 c3
            obtain ⟨p1,p2,_⟩:=place_old st he
            have l3:=(st.ok.linkOk _ _ e2).2.2.1
            rw [← p2] at l3
            obtain ⟨m1,m2⟩:=oldPort_mod st p1
            exact absurd (end_old st (ns:=r.numbers P) p1 l3 ((place_out st l3 m1 m2).mpr c2)) (h e)
  · rw [if_neg c0]
    cases e2:r.at_ q with
    | none=>split <;> rfl
    | some y=>exact absurd (big (by rw [e2];simp)) c0
theorem end_inj (st:Stp r a b P) {e e' q:Nat} (h:endF r P (r.numbers P) e=some q) (h' : endF r P (r.numbers P) e'=some q):e=e':=by
  have mix:∀ {e e' : Nat},e∈newPl r P.rule.news→q=Nets.newPort (r.numbers P) e→IsOld r P e'→r.at_ (Nets.oldPort P e')=some q→placeF r P q=none→False:=fun {e e'} d1 d3 c1 c2 c3=>by
    obtain ⟨n,s,g1,g2,g3,g4,g5,g6,g7⟩:=newPort_facts st d1
    obtain ⟨n1,n2⟩:=oldPort_mod st c1
    have ho:=(place_out st c2 n1 n2).mp c3
    have z:=notNew st (st.ok.linkOk _ _ c2).2.1 ho (by omega)
    rw [show q / 4=n by omega,List.contains_iff_mem.mpr g6] at z
    cases z
  rcases end_some st h with ⟨c1,c2,c3⟩ | ⟨c1,c2,c3⟩
  · rcases end_some st h' with ⟨d1,d2,d3⟩ | ⟨d1,d2,d3⟩
    · obtain ⟨n,s,g1,g2,g3,g4,g5,g6,g7⟩:=newPort_facts st c1
      obtain ⟨n',s',g1',g2',g3',g4',g5',g6',g7'⟩:=newPort_facts st d1
      have en:n=n':=by omega
      subst en
      omega
    · exact (mix c1 c3 d1 d2 d3).elim
  · rcases end_some st h' with ⟨d1,d2,d3⟩ | ⟨d1,d2,d3⟩
    · exact (mix d1 d3 c1 c2 c3).elim
    · have e1:=(st.ok.linkOk _ _ c2).2.2.1
      have e2:=(st.ok.linkOk _ _ d2).2.2.1
      rw [e1] at e2
      have e3:=Option.some.inj e2
      have p1:=old_place st c1
      have p2:=old_place st d1
      rw [e3,p2] at p1
      exact (Option.some.inj p1).symm
theorem port_stays (st:Stp r a b P) {q:Nat} (hp:r.isPort q=true) (ho:Nets.outside P q=true):(r.stepped P).isPort q=true:=by
  unfold Nets.Rec.isPort at hp ⊢
  by_cases c:Nets.NAMES≤q
  · rw [if_pos c] at hp ⊢
    exact hp
  · have hq:q<256:=by unfold Nets.NAMES at c;omega
    have hp2:r.isPort q=true:=by unfold Nets.Rec.isPort;exact hp
    rw [if_neg c] at hp ⊢
    have o:=outside_iff.mp ho
    rw [stepped_sym,if_pos (by omega),if_neg (by rw [notNew st hp2 ho hq];simp),if_neg (by omega)]
    exact hp
theorem end_port (st:Stp r a b P) {e q:Nat} (h:endF r P (r.numbers P) e=some q):(r.stepped P).isPort q=true:=by
  rcases end_some st h with ⟨c1,c2,c3⟩ | ⟨c1,c2,c3⟩
  · obtain ⟨n,s,g1,g2,g3,g4,g5,g6,g7⟩:=newPort_facts st c1
    rw [g4] at c3
    unfold Nets.Rec.isPort
    rw [if_neg (by unfold Nets.NAMES;omega),stepped_sym,if_pos (by omega),show q / 4=n by omega,if_pos (List.contains_iff_mem.mpr g6),g7,g2]
    exact decide_eq_true (by show q%4≤r.of s;omega)
  · obtain ⟨n1,n2⟩:=oldPort_mod st c1
    exact port_stays st (st.ok.linkOk _ _ c2).2.1 ((place_out st c2 n1 n2).mp c3)
theorem stepped_ok (st:Stp r a b P):RecOk (r.stepped P):=by
  refine ⟨st.ok.ar3,st.ok.ar16,?_,?_,fun n s h=>?_,fun q z h=>?_⟩
  · unfold Nets.Rec.stepped
    show ((List.range 64).map _).length=64
    rw [List.length_map,List.length_range]
  · unfold Nets.Rec.stepped
    show ((List.range 272).map _).length=272
    rw [List.length_map,List.length_range]
  · rw [stepped_sym] at h
    by_cases c:n<64
    · rw [if_pos c] at h
      by_cases c2:(r.numbers P).contains n=true
      · rw [if_pos c2] at h
        exact st.ru.made.sym s (List.mem_of_getElem? h)
      · rw [if_neg c2] at h
        by_cases c3:n=P.x∨n=P.y
        · rw [if_pos c3] at h;cases h
        · rw [if_neg c3] at h
          exact st.ok.symOk n s h
    · rw [if_neg c] at h;cases h
  · by_cases c:∃ e,endF r P (r.numbers P) e=some q
    · obtain ⟨e,he⟩:=c
      obtain ⟨k,w,z',hk,hw,ho,hz,hat⟩:=L1 st he
      rw [hat] at h
      cases h
      refine ⟨end_port st he,end_port st hz,?_,fun e2=>?_⟩
      · obtain ⟨k2,w2,z2,hk2,hw2,ho2,hz2,hat2⟩:=L1 st hz
        have ed:=Wk.det (Wk.rev st.mInv st.oInv hw) hw2 (end_flat st he).2 ho2
        rw [← ed,he] at hz2
        rw [hat2,← hz2]
      · subst e2
        have:=end_inj st he hz
        subst this
        exact Wk.noloop st.mInv st.oInv st.mNe st.oNe hw
    · have c' : ∀ e,endF r P (r.numbers P) e≠some q:=fun e z=>c ⟨e,z⟩
      rw [L2_ st c'] at h
      unfold baseF at h
      cases ho:Nets.outside P q with
      | false=>rw [ho] at h;cases h
      | true =>
        rw [ho,if_pos rfl] at h
        obtain ⟨l1,l2,l3,l4⟩:=st.ok.linkOk _ _ h
        have o:=outside_iff.mp ho
        have hx:=st.x64
        have hy:=st.y64
        have n1:q≠4*P.x:=by omega
        have n2:q≠4*P.y:=by omega
        have hoz:Nets.outside P z=true:=by
          cases hoz:Nets.outside P z with
          | true=>rfl
          | false =>
            obtain ⟨e,he⟩:=inside st h n1 n2 hoz
            obtain ⟨p1,p2,_⟩:=place_old st he
            rw [← p2] at l3
            obtain ⟨m1,m2⟩:=oldPort_mod st p1
            exact absurd (end_old st (ns:=r.numbers P) p1 l3 ((place_out st l3 m1 m2).mpr ho)) (c' e)
        have cz:∀ e,endF r P (r.numbers P) e≠some z:=fun e he=>by
          rcases end_some st he with ⟨c1,c2,c3⟩ | ⟨c1,c2,c3⟩
          · obtain ⟨n,s,g1,g2,g3,g4,g5,g6,g7⟩:=newPort_facts st c1
            have y:=notNew st l2 hoz (by omega)
            rw [show z / 4=n by omega,List.contains_iff_mem.mpr g6] at y
            cases y
          · have y:=(st.ok.linkOk _ _ c2).2.2.1
            rw [l3] at y
            have y:=Option.some.inj y
            have pl:=(place_old st (old_place st c1)).2.2.2
            rw [← y,ho] at pl
            cases pl
        refine ⟨port_stays st l1 ho,port_stays st l2 hoz,?_,l4⟩
        rw [L2_ st cz]
        unfold baseF
        rw [hoz,if_pos rfl]
        exact l3
theorem stepped_whole (st:Stp r a b P):(r.stepped P).whole=true:=by
  refine (whole_iff (stepped_ok st)).mpr fun n s j hs hj=>?_
  have hj:j≤r.of s:=hj
  have os:=of_le st.ok s
  rw [stepped_sym] at hs
  by_cases c:n<64
  · rw [if_pos c] at hs
    have fin:(∃ e,endF r P (r.numbers P) e=some (4*n+j))→((r.stepped P).at_ (4*n+j)).isSome=true:=by
      rintro ⟨e,he⟩
      obtain ⟨k,w,z',hk,hw,ho,hz,hat⟩:=L1 st he
      rw [hat];rfl
    by_cases c2:(r.numbers P).contains n=true
    · rw [if_pos c2] at hs
      have hm:=List.contains_iff_mem.mp c2
      have hi:=List.idxOf_lt_length_of_mem hm
      refine fin ⟨4*(r.numbers P).idxOf n+j,?_⟩
      have q:=(mem_newPl st.ok P.rule.news ((r.numbers P).idxOf n) j (by omega)).mpr ⟨s,hs,hj⟩
      rw [end_new st q]
      unfold Nets.newPort
      rw [show (4*(r.numbers P).idxOf n+j) / 4=(r.numbers P).idxOf n by omega,List.getD_eq_getElem?_getD,List.getElem?_eq_getElem hi,List.getElem_idxOf hi]
      refine congrArg some ?_
      show 4*n+_=_
      omega
    · rw [if_neg c2] at hs
      by_cases c3:n=P.x∨n=P.y
      · rw [if_pos c3] at hs;cases hs
      · rw [if_neg c3] at hs
        have hw:=(whole_iff st.ok).mp st.wh n s j hs hj
        by_cases c4:∃ e,endF r P (r.numbers P) e=some (4*n+j)
        · exact fin c4
        · rw [L2_ st fun e z=>c4 ⟨e,z⟩]
          unfold baseF
          rw [if_pos (outside_iff.mpr (.inr (by omega)))]
          exact hw
  · rw [if_neg c] at hs;cases hs
end
structure DictV (kvs:List (Key × V)) (g:Nat→Option V):Prop where
  nd:(kvs.map (·.1)).Nodup
  val:∀ n:Nat,valV kvs (.inl (n:Int))=g n
  key:∀ k∈kvs.map (·.1),∃ n:Nat,k=.inl (n:Int)
section
variable {kvs more:List (Key × V)} {f:Nat→Option Nat} {g g2:Nat→Option V}
theorem DictIs.v (d:DictIs kvs f):DictV kvs (fun n=>(f n).map nV):=⟨d.nd,d.val,d.key⟩
theorem DictV.is (d:DictV kvs g) (h:∀ n,g n=(f n).map nV):DictIs kvs f:=⟨d.nd,fun n=>by rw [d.val,h],d.key⟩
theorem DictV.congr {g' : Nat→Option V} (d:DictV kvs g) (h:∀ n,g n=g' n):DictV kvs g':=⟨d.nd,fun n=>by rw [d.val,h],d.key⟩
theorem keys_putK {k:Key} (v:V) (h:valV kvs k≠none):(putK kvs k v).map (·.1)=kvs.map (·.1):=by
  unfold putK
  rw [if_pos (by rw [valV_any];cases e:valV kvs k with | none=>exact absurd e h | some y=>rfl),List.map_map]
  refine List.map_congr_left fun p _=>?_
  show (if p.1=k then (p.1,v) else p).1=p.1
  split <;> rfl
theorem nd_put_any {k:Key} (v:V) (hn:(kvs.map (·.1)).Nodup):((putK kvs k v).map (·.1)).Nodup:=by
  by_cases h:valV kvs k=none
  · exact nd_putK v hn h
  · rw [keys_putK v h];exact hn
theorem key_put_any {k:Key} (v:V) {j:Key} (h:j∈(putK kvs k v).map (·.1)):j∈kvs.map (·.1)∨j=k:=by
  by_cases hv:valV kvs k=none
  · rw [putK_new v hv,List.map_append] at h
    rcases List.mem_append.mp h with z | z
    · exact .inl z
    · exact .inr (by simpa using z)
  · rw [keys_putK v hv] at h
    exact .inl h
theorem DictV.put (d:DictV kvs g) (n:Nat) (v:V):DictV (putK kvs (.inl (n:Int)) v) (fun m=>if m=n then some v else g m):=by
  refine ⟨nd_put_any v d.nd,fun m=>?_,fun k hk=>?_⟩
  · rw [valV_put]
    by_cases h:m=n
    · subst h
      rw [if_pos rfl,if_pos rfl]
    · rw [if_neg (inl_ne h),if_neg h,d.val]
  · rcases key_put_any v hk with z | z
    · exact d.key k z
    · exact ⟨n,z⟩
theorem DictIs.putA (d:DictIs kvs f) (n v:Nat):DictIs (putK kvs (.inl (n:Int)) (nV v)) (fun m=>if m=n then some v else f m):=(d.v.put n (nV v)).is fun m=>by
  by_cases h:m=n
  · rw [if_pos h,if_pos h];rfl
  · rw [if_neg h,if_neg h]
theorem valV_merge:∀ {more kvs:List (Key × V)},(more.map (·.1)).Nodup→∀ j,valV (mergeK kvs more) j=(valV more j).or (valV kvs j)
  | [],kvs,_,j=>rfl
  | p::rest,kvs,h,j=>by
    obtain ⟨h1,h2⟩:=List.nodup_cons.mp (show (p.1::rest.map (·.1)).Nodup from h)
    have ih:=valV_merge (more:=rest) (kvs:=putK kvs p.1 p.2) h2 j
    show valV (mergeK (putK kvs p.1 p.2) rest) j=_
    rw [ih,valV_put]
    by_cases e:j=p.1
    · subst e
      rw [if_pos rfl,valV_pos rfl]
      cases q:valV rest p.1 with
      | none=>rfl
      | some v=>exact absurd (valV_in q) h1
    · rw [if_neg e,valV_neg (fun z=>e z.symm)]
theorem nd_merge:∀ {more kvs:List (Key × V)},(kvs.map (·.1)).Nodup→((mergeK kvs more).map (·.1)).Nodup
  | [],kvs,h=>h
  | p::rest,kvs,h=>nd_merge (more:=rest) (nd_put_any p.2 h)
theorem key_merge:∀ {more kvs:List (Key × V)} {k:Key},k∈(mergeK kvs more).map (·.1)→k∈kvs.map (·.1)∨k∈more.map (·.1)
  | [],kvs,k,h=>.inl h
  | p::rest,kvs,k,h=>by
    rcases key_merge (more:=rest) (kvs:=putK kvs p.1 p.2) h with z | z
    · rcases key_put_any p.2 z with y | y
      · exact .inl y
      · exact .inr (by rw [y];exact List.mem_cons_self)
    · exact .inr (List.mem_cons_of_mem _ z)
theorem DictV.merge (d:DictV kvs g) (d2:DictV more g2):DictV (mergeK kvs more) (fun n=>(g2 n).or (g n)):=by
  refine ⟨nd_merge d.nd,fun n=>?_,fun k hk=>?_⟩
  · rw [valV_merge d2.nd,d.val,d2.val]
  · rcases key_merge hk with z | z
    · exact d.key k z
    · exact d2.key k z
end
def tDUpd (td ty:TE):TE:=fun σ H Q=>td σ H fun x H1=>∃ a,x=.ref a∧IsD H1 a∧ty σ H1 fun y H2=>∃ (c:Addr) (kvs more:List (Key × V)),y=.ref c∧H2 a=some (.dK kvs)∧Rd H2 c (.dK more)∧a≠c∧kvs.length+more.length≤sizeLine∧Q .non (upd H2 a (.dK (mergeK kvs more)))
section
variable {X:Cx} {pins:List (Addr × Obj)} {σ:L2.St} {H:Hp} {s:Shared} {a c:Addr} {A:Around} {E:Value→Shared→Prop}
theorem d_upd {kvs more:List (Key × V)} {Q:Value→Shared→Prop} (I:Inv X pins σ H s) (e:H a=some (.dK kvs)) (e2:Rd H c (.dK more)) (hne:a≠c) (hsz:kvs.length+more.length≤sizeLine)
    (h:∀ s',Inv X pins σ (upd H a (.dK (mergeK kvs more))) s'→Q .none s'):wpAny (model X.prog X.w) A (call (.builtin "dict.update") [.ref a,.ref c]) Q E s:=by
  obtain ⟨z,hd,vs,rel,dd⟩:=dk_of I.hok e
  obtain ⟨z2,hd2,vs2,rel2,dd2⟩:=dk_rd I.hok e2
  refine call_meetsIn PySem.F.slot_dict_update dd.typeIs PySem.F.entry_dict_update (PySem.F.args_dict_update_2 _ _) (meets_dict_update (mixKind X.prog X.w) a c hne hd2)
    ⟨vs,vs2,dd,dd2,by rw [← rel.length,← rel2.length];exact hsz,fun h' dd' _ hs=>h _ ?_⟩
  have he:∃ q,h'.get? a=some q:=let ⟨q,_,_,hq,_⟩:=dd';⟨q,hq⟩
  have rm:=KV.merge rel2 rel
  refine d_write I (by rw [e];exact True.intro) hs he (dk_new ?_ hd rm dd')
  have q:=merged_length_le vs vs2
  rw [rm.length]
  rw [rel.length,rel2.length] at hsz
  exact Nat.le_trans q hsz
end
theorem pe_dupd {X:Cx} {o e:Expr} {apos cpos:Pos} {td ty:TE} (ho:PE X o td) (he:PE X e ty) (m:M1 X o "update" apos e cpos):PE X (.Call (.Attribute o "update" apos) [e] [] cpos) (tDUpd td ty):=by
  intro pins s σ H Q I h
  refine wpAny_Call_method m.base m.few m.line PySem.F.plainAttrs_dict PySem.F.slot_dict_update PySem.F.type_dict_update (thn (ho pins s σ H _ I h) fun u s1 ⟨x,H1,I1,rx,a,ex,d,q1⟩=>?_)
  subst ex
  obtain rfl:u=Value.ref a:=rx
  obtain ⟨t1,t2,_⟩:=isD_at I1 d
  refine ⟨t1,t2,?_⟩
  rw [m.trees]
  refine Calls.callWith_builtin rfl (Calls.evalArgs_plain (Calls.spliced_cons (thn (he pins s1 σ H1 _ I1 q1) fun iv s2 ⟨y,H2,I2,ry,c,kvs,more,ey,ea,ec,hne,hsz,q2⟩=>Calls.spliced_nil ?_)))
  subst ey
  obtain rfl:iv=Value.ref c:=ry
  exact d_upd I2 ea ec hne hsz fun s3 I3=>⟨.non,_,I3,rfl,q2⟩
theorem unlock_same {H H' : Hp} {d:Addr} {od:Obj} {u:HO} (h:H d=some u) (s:∀ b o,upd H d (.frz od u) b=some o→H' b=some o):Same H (upd H' d u):=fun b o e=>by
  by_cases z:b=d
  · subst z
    rw [upd_same]
    rw [h] at e
    exact e
  · rw [upd_ne z]
    refine s b o ?_
    rw [upd_ne z]
    exact e
section
variable {P:Program} {w:World} {K:PySem.W.Frag} {mg:Str→Option Value} {base:Heap} {C CR:Addr}
theorem DPut.n {H:Hp} {a:Addr} {kvs:List (Key × V)} {z v:Int} {n m:Nat} (hz:z=(n:Int)) (hv:v=(m:Int)) (e:H a=some (.dK kvs)) (hl:kvs.length<sizeLine):DPut H a (V.int z) (V.int v) (upd H a (.dK (putK kvs (.inl (n:Int)) (nV m)))):=by
  rw [hz,hv]
  exact DPut.k (k:=Sum.inl (n:Int)) e hl
def spFar:Sp:=fun vs H Q _=>∃ (dm dn:Addr) (kvm kvn:List (Key × V)) (m o:Nat→Option Nat) (k e wE:Nat),vs=[.ref dm,.ref dn,nV e]∧H dm=some (.dK kvm)∧DictIs kvm m∧H dn=some (.dK kvn)∧DictIs kvn o∧Wk m o k e wE∧o wE=none∧Q (nV wE) H
def Rst (m o:Nat→Option Nat) (wE:Nat):Nat→Nat→Prop
  | 0,y=>y=wE
  | n+1,y=>∃ e',o y=some e'∧Wk m o n e' wE
theorem Wk.rst {m o:Nat→Option Nat} {wE:Nat}:∀ {k e:Nat},Wk m o k e wE→∃ y,m e=some y∧Rst m o wE k y
  | 0,e,h=>⟨wE,h,rfl⟩
  | k+1,e,⟨y,e',h1,h2,h3⟩=>⟨y,h1,e',h2,h3⟩
theorem sc_far_place:FnScope ["mates", "onward", "place", "far"] ["mates", "onward", "place"] (defScope s_far_place):=⟨rfl,rfl,rfl,by decide +kernel,rfl,by decide +kernel,by decide +kernel⟩
theorem ok_far_place {f:Addr} {fd:FuncData} (F:Fun K "far_place" "far_place" s_far_place f fd) (T:Txt K mg C CR):FnOk P w K mg base CX0 1 f fd ["mates", "onward", "place"] spFar:=by
  refine F.ok sc_far_place (fun vs H Q E h=>?_) (fun cdv A0 outer s H vs Q E hr h=>?_)
  · obtain ⟨dm,dn,kvm,kvn,m,o,k,e,wE,rfl,_⟩:=h
    rfl
  · obtain ⟨dm,dn,kvm,kvn,m,o,k,e,wE,rfl,hm,dm',hn,dn',hw,ho,kk⟩:=h
    have nd:=sc_far_place.nd
    have hu:=hu_of hr
    have getm:∀ n y:Nat,m n=some y→DGet H dm (nV n) (some (nV y)):=fun n y e=>by
      have q:=DGet.k (k:=Sum.inl (n:Int)) hm
      rw [dm'.val,e] at q
      exact q
    have getn:∀ n y:Nat,o n=some y→DGet H dn (nV n) (some (nV y)):=fun n y e=>by
      have q:=DGet.k (k:=Sum.inl (n:Int)) hn
      rw [dn'.val,e] at q
      exact q
    obtain ⟨y0,hy0,hr0⟩:=Wk.rst hw
    refine ⟨_,(pss_cons (ps_set (i:=3) nd rfl (Or.inl rfl) (pe_dget hu (pv 0) (pv 2) (fun _ _=>rfl))) (pss_cons (ps_while PassesOwn.never (pt_cmp (pc_din hu (pv 3) (pv 1))) (pss_one (ps_set (i:=3) nd rfl (Or.inl rfl) (pe_dget hu (pv 0) (pe_dget hu (pv 1) (pv 3) (fun _ _=>rfl)) (fun _ _=>rfl))))) (pss_one (ps_ret (pv 3))))),?_⟩
    refine ⟨_,rfl,_,rfl,dm,nV y0,rfl,getm _ _ hy0,?_⟩
    refine ⟨fun n σ H'=>H'=H∧∃ y,Rst m o wE n y∧σ=[some (.ref dm),some (.ref dn),some (nV e),some (nV y)],⟨k,rfl,y0,hr0,rfl⟩,?_⟩
    rintro n σ H' ⟨rfl,y,hy,rfl⟩
    refine ⟨_,rfl,_,rfl,dn,_,rfl,DGet.k (k:=Sum.inl (y:Int)) hn,_,rfl,?_⟩
    rw [dn'.val]
    cases n with
    | zero =>
      have hy:y=wE:=hy
      subst hy
      rw [ho]
      exact iteF ⟨_,rfl,kk⟩
    | succ n =>
      obtain ⟨e',h1,h2⟩:=hy
      rw [h1]
      obtain ⟨y2,hy2,hr2⟩:=Wk.rst h2
      refine iteT ⟨fun σ' H1=>H1=H'∧σ'=[some (.ref dm),some (.ref dn),some (nV e),some (nV y2)],?_,?_⟩
      · rintro σ' H2 ⟨rfl,rfl⟩
        exact ⟨n,by omega,rfl,y2,hr2,rfl⟩
      · exact ⟨_,rfl,_,rfl,_,rfl,dn,nV e',rfl,getn _ _ h1,dm,nV y2,rfl,getm _ _ hy2,rfl,rfl⟩
def spOldPlaces (C CR:Addr):Sp:=fun vs H Q _=>∃ (A:RecAd) (r:Nets.Rec) (a b:Nat) (p:Nets.Pair) (i:Nat) (d:RuleAd),vs=[.ref A.p,.ref d.q,nV a]∧RecAt C CR H A r∧Stp r a b p∧A.rl[i]?=some d∧r.rules[i]?=some p.rule ∧
  ∀ H' D kvs,H D=none→Same H H'→H' D=some (.dK kvs)→DictIs kvs (placeF r p)→Q (.ref D) H'
theorem sc_old_places:FnScope ["record", "rule", "lower", "first", "second", "places", "j"] ["record", "rule", "lower"] (defScope s_old_places):=⟨rfl,rfl,rfl,by decide +kernel,rfl,by decide +kernel,by decide +kernel⟩
theorem ok_old_places {f:Addr} {fd:FuncData} (F:Fun K "old_places" "old_places" s_old_places f fd) (T:Txt K mg C CR) (D_facing_agent:Df P w K mg base "facing_agent" ["record", "agent"] 1 (spFacing C)):FnOk P w K mg base CX0 2 f fd ["record", "rule", "lower"] (spOldPlaces C CR):=by
  refine F.ok sc_old_places (fun vs H Q E h=>?_) (fun cdv A0 outer s H vs Q E hr h=>?_)
  · obtain ⟨A,r,a,b,p,i,d,rfl,_⟩:=h
    rfl
  · obtain ⟨A,r,a,b,p,i,d,rfl,h1,st,hi1,hi2,k⟩:=h
    have nd:=sc_old_places.nd
    have hu:=hu_of hr
    obtain ⟨sa,hsa⟩:=st.po.symA
    have ga:=h1.rd.getAg a
    rw [hsa] at ga
    have R:=h1.rule i d _ hi1 hi2
    have os:=of_le st.ok p.rule.s
    have ot:=of_le st.ok p.rule.t
    have ne:=st.po.ne
    have hlx:=st.ok.ofLt st.po.symX
    have hly:=st.ok.ofLt st.po.symY
    refine ⟨_,(pss_cons (ps_set (i:=3) nd rfl (Or.inl rfl) (pv 2)) (pss_cons (ps_set (i:=4) nd rfl (Or.inl rfl) (pe_callD D_facing_agent (hr.mono (by decide)) rfl (pa_cons (pv 0) (pa_cons (pv 2) pa_nil)))) (pss_cons (ps_if (pt_cmpR op_ne (pe_dget hu (pe_fld (pv 0) rfl) (pv 2) (fun _ _=>rfl)) (pe_fld (pv 1) rfl) (nomark _)) (pss_cons (ps_set (i:=3) nd rfl (Or.inl rfl) (pv 4)) (pss_one (ps_set (i:=4) nd rfl (Or.inl rfl) (pv 2)))) pss_nil) (pss_cons (ps_set (i:=5) nd rfl (Or.inl rfl) pe_dnewK) (pss_cons (ps_for PassesOwn.never rfl (pi_range2 rfl T.b_range (pa_cons pe_int (pa_cons (pe_op op_add pe_int (pe_ix ix_list (pe_fld (pv 0) rfl) (pe_dget hu (pe_fld (pv 0) rfl) (pv 3) (fun _ _=>rfl)) (fun _ _=>rfl))) pa_nil))) (pg_name (i:=6) nd rfl (Or.inl rfl)) (pss_one (ps_dput hu (pv 5) (pe_op op_add (pe_op op_mul (pe_glV rfl T.c_PORTS_APART) (pv 3)) (pv 6)) (pe_op op_add (pe_glV rfl T.c_FIRST_OLD) (pv 6)) rfl))) (pss_cons (ps_for PassesOwn.never rfl (pi_range2 rfl T.b_range (pa_cons pe_int (pa_cons (pe_op op_add pe_int (pe_ix ix_list (pe_fld (pv 0) rfl) (pe_dget hu (pe_fld (pv 0) rfl) (pv 4) (fun _ _=>rfl)) (fun _ _=>rfl))) pa_nil))) (pg_name (i:=6) nd rfl (Or.inl rfl)) (pss_one (ps_dput hu (pv 5) (pe_op op_add (pe_op op_mul (pe_glV rfl T.c_PORTS_APART) (pv 4)) (pv 6)) (pe_op op_add (pe_glV rfl T.c_SECOND_OLD) (pv 6)) rfl))) (pss_one (ps_ret (pv 5))))))))),?_⟩
    refine ⟨_,rfl,_,rfl,_,rfl,A,r,a,4*b,rfl,h1.rd,st.po.at0,?_⟩
    rw [show 4*b / 4=b by omega]
    refine ⟨_,rfl,A.p,C,A.dx,_,_,rfl,h1.obj,T.cl,T.nAgents,recF_agents A,_,rfl,A.ag,nV sa,rfl,ga,_,rfl,d.q,CR,d.dq,_,_,rfl,R.obj,T.clR,T.nFirst,ruleF_first d p.rule,rfl,_,rfl,ite2 (fun c=>?_) (fun c=>?_)⟩
    · have c:¬ nV sa=nV p.rule.s:=by simpa using c
      have c:sa≠p.rule.s:=fun z=>c (by rw [z])
      have q:p.x=b∧p.y=a:=by
        rcases st.po.xy with q | q
        · rw [hsa] at q
          exact absurd (Option.some.inj q.2.2.1) c
        · exact ⟨q.1,q.2.1⟩
      refine ⟨_,rfl,_,rfl,?_⟩
      rw [← q.1,← q.2]
      clear q c
      intro D hD
      have s1:Same H (upd H D (.dK [])):=Same.upd (Same.refl _) hD
      have stay:∀ {H' : Hp} {u:HO},Same H H'→Same H (upd H' D u):=fun {H' u} s b o e=>by
        rw [upd_ne (ne_of_none e hD)]
        exact s b o e
      have h2:=h1.same s1
      have gx:=h2.rd.getAg p.x
      rw [st.po.symX] at gx
      refine ⟨_,rfl,A.p,C,A.dx,_,_,rfl,h2.obj,T.cl,T.nMore,recF_more A,_,rfl,A.p,C,A.dx,_,_,rfl,h2.obj,T.cl,T.nAgents,recF_agents A,_,rfl,A.ag,nV p.rule.s,rfl,gx,A.mp,_,(p.rule.s:Int),nV (r.of p.rule.s),rfl,rfl,SqL.of h2.mp,nats_at hlx,_,_,rfl,rfl,1,1+(r.of p.rule.s:Int),rfl,⟨by decide,by decide,by omega,by omega⟩,
        for_range (lo:=1) (n:=(1+(r.of p.rule.s:Int) - 1).toNat) (fun j σ H'=>Same H H'∧(∃ lo c,σ=[some (.ref A.p),some (.ref d.q),lo,some (nV p.x),some (nV p.y),some (.ref D),c])∧∃ kvs,H' D=some (.dK kvs)∧DictIs kvs fun n=>if n / 4=p.x∧1≤n%4∧n%4≤j then some (64+n%4) else none)
        ⟨s1,⟨_,_,rfl⟩,[],upd_same,⟨List.nodup_nil,fun n=>by rw [if_neg (by omega)];rfl,fun k hk=>absurd hk (by simp)⟩⟩ ?_ ?_⟩
      · rintro j σ H' hj ⟨s2,⟨lo,c,rfl⟩,kvs,hD',dd⟩
        have hl:=dd.len_le (B:=300) fun n hn=>by
          have hx:=st.x64
          by_cases c:n / 4=p.x∧1≤n%4∧n%4≤j
          · omega
          · rw [if_neg c] at hn;cases hn
        refine ⟨_,rfl,_,_,rfl,rfl,_,rfl,_,rfl,_,_,rfl,rfl,.inl ⟨by decide,by decide⟩,_,rfl,_,_,rfl,rfl,D,_,rfl,DPut.n (n:=4*p.x+(1+j)) (m:=64+(1+j)) (by omega) (by omega) hD' (small1000 (by omega)),stay s2,⟨_,_,rfl⟩,_,upd_same,?_⟩
        refine (dd.putA (4*p.x+(1+j)) (64+(1+j))).congr fun n=>?_
        by_cases z:n=4*p.x+(1+j)
        · rw [if_pos z,if_pos (by omega)]
          exact congrArg some (by omega)
        · rw [if_neg z]
          by_cases y:n / 4=p.x∧1≤n%4∧n%4≤j
          · rw [if_pos y,if_pos (by omega)]
          · rw [if_neg y,if_neg (by omega)]
      · rintro σ H' ⟨s2,⟨lo,c,rfl⟩,kvs,hD',dd⟩
        rw [show (1+(r.of p.rule.s:Int) - 1).toNat=r.of p.rule.s by omega] at dd
        have h3:=h1.same s2
        have gy:=h3.rd.getAg p.y
        rw [st.po.symY] at gy
        refine ⟨_,rfl,A.p,C,A.dx,_,_,rfl,h3.obj,T.cl,T.nMore,recF_more A,_,rfl,A.p,C,A.dx,_,_,rfl,h3.obj,T.cl,T.nAgents,recF_agents A,_,rfl,A.ag,nV p.rule.t,rfl,gy,A.mp,_,(p.rule.t:Int),nV (r.of p.rule.t),rfl,rfl,SqL.of h3.mp,nats_at hly,_,_,rfl,rfl,1,1+(r.of p.rule.t:Int),rfl,⟨by decide,by decide,by omega,by omega⟩,
          for_range (lo:=1) (n:=(1+(r.of p.rule.t:Int) - 1).toNat) (fun j σ H'=>Same H H'∧(∃ lo c,σ=[some (.ref A.p),some (.ref d.q),lo,some (nV p.x),some (nV p.y),some (.ref D),c])∧∃ kvs,H' D=some (.dK kvs)∧DictIs kvs fun n=>if n / 4=p.x∧1≤n%4∧n%4≤r.of p.rule.s then some (64+n%4) else if n / 4=p.y∧1≤n%4∧n%4≤j then some (80+n%4) else none)
          ⟨s2,⟨_,_,rfl⟩,kvs,hD',dd.congr fun n=>by rw [if_neg (show ¬ (n / 4=p.y∧1≤n%4∧n%4≤0) by omega)]⟩ ?_ ?_⟩
        · rintro j σ H' hj ⟨s2,⟨lo,c,rfl⟩,kvs,hD',dd⟩
          have hl:=dd.len_le (B:=300) fun n hn=>by
            have hx:=st.x64
            have hy:=st.y64
            by_cases c:n / 4=p.x∧1≤n%4∧n%4≤r.of p.rule.s
            · omega
            · rw [if_neg c] at hn
              by_cases c2:n / 4=p.y∧1≤n%4∧n%4≤j
              · omega
              · rw [if_neg c2] at hn;cases hn
          refine ⟨_,rfl,_,_,rfl,rfl,_,rfl,_,rfl,_,_,rfl,rfl,.inl ⟨by decide,by decide⟩,_,rfl,_,_,rfl,rfl,D,_,rfl,DPut.n (n:=4*p.y+(1+j)) (m:=80+(1+j)) (by omega) (by omega) hD' (small1000 (by omega)),stay s2,⟨_,_,rfl⟩,_,upd_same,?_⟩
          refine (dd.putA (4*p.y+(1+j)) (80+(1+j))).congr fun n=>?_
          by_cases z:n=4*p.y+(1+j)
          · rw [if_pos z,if_neg (by omega),if_pos (by omega)]
            exact congrArg some (by omega)
          · rw [if_neg z]
            by_cases y:n / 4=p.x∧1≤n%4∧n%4≤r.of p.rule.s
            · rw [if_pos y,if_pos y]
            · rw [if_neg y,if_neg y]
              by_cases y2:n / 4=p.y∧1≤n%4∧n%4≤j
              · rw [if_pos y2,if_pos (by omega)]
              · rw [if_neg y2,if_neg (by omega)]
        · rintro σ H' ⟨s2,⟨lo,c,rfl⟩,kvs,hD',dd⟩
          rw [show (1+(r.of p.rule.t:Int) - 1).toNat=r.of p.rule.t by omega] at dd
          exact ⟨_,rfl,k H' D kvs hD s2 hD' dd⟩
    · have c:nV sa=nV p.rule.s:=by simpa using c
      have c:sa=p.rule.s:=nV_eq.mp c
      have q:p.x=a∧p.y=b:=by
        rcases st.po.xy with q | q
        · exact ⟨q.1,q.2.1⟩
        · rw [hsa] at q
          exact absurd (c.symm.trans (Option.some.inj q.2.2.2.1)) q.2.2.2.2
      rw [← q.1,← q.2]
      clear q c
      intro D hD
      have s1:Same H (upd H D (.dK [])):=Same.upd (Same.refl _) hD
      have stay:∀ {H' : Hp} {u:HO},Same H H'→Same H (upd H' D u):=fun {H' u} s b o e=>by
        rw [upd_ne (ne_of_none e hD)]
        exact s b o e
      have h2:=h1.same s1
      have gx:=h2.rd.getAg p.x
      rw [st.po.symX] at gx
      refine ⟨_,rfl,A.p,C,A.dx,_,_,rfl,h2.obj,T.cl,T.nMore,recF_more A,_,rfl,A.p,C,A.dx,_,_,rfl,h2.obj,T.cl,T.nAgents,recF_agents A,_,rfl,A.ag,nV p.rule.s,rfl,gx,A.mp,_,(p.rule.s:Int),nV (r.of p.rule.s),rfl,rfl,SqL.of h2.mp,nats_at hlx,_,_,rfl,rfl,1,1+(r.of p.rule.s:Int),rfl,⟨by decide,by decide,by omega,by omega⟩,
        for_range (lo:=1) (n:=(1+(r.of p.rule.s:Int) - 1).toNat) (fun j σ H'=>Same H H'∧(∃ lo c,σ=[some (.ref A.p),some (.ref d.q),lo,some (nV p.x),some (nV p.y),some (.ref D),c])∧∃ kvs,H' D=some (.dK kvs)∧DictIs kvs fun n=>if n / 4=p.x∧1≤n%4∧n%4≤j then some (64+n%4) else none)
        ⟨s1,⟨_,_,rfl⟩,[],upd_same,⟨List.nodup_nil,fun n=>by rw [if_neg (by omega)];rfl,fun k hk=>absurd hk (by simp)⟩⟩ ?_ ?_⟩
      · rintro j σ H' hj ⟨s2,⟨lo,c,rfl⟩,kvs,hD',dd⟩
        have hl:=dd.len_le (B:=300) fun n hn=>by
          have hx:=st.x64
          by_cases c:n / 4=p.x∧1≤n%4∧n%4≤j
          · omega
          · rw [if_neg c] at hn;cases hn
        refine ⟨_,rfl,_,_,rfl,rfl,_,rfl,_,rfl,_,_,rfl,rfl,.inl ⟨by decide,by decide⟩,_,rfl,_,_,rfl,rfl,D,_,rfl,DPut.n (n:=4*p.x+(1+j)) (m:=64+(1+j)) (by omega) (by omega) hD' (small1000 (by omega)),stay s2,⟨_,_,rfl⟩,_,upd_same,?_⟩
        refine (dd.putA (4*p.x+(1+j)) (64+(1+j))).congr fun n=>?_
        by_cases z:n=4*p.x+(1+j)
        · rw [if_pos z,if_pos (by omega)]
          exact congrArg some (by omega)
        · rw [if_neg z]
          by_cases y:n / 4=p.x∧1≤n%4∧n%4≤j
          · rw [if_pos y,if_pos (by omega)]
          · rw [if_neg y,if_neg (by omega)]
      · rintro σ H' ⟨s2,⟨lo,c,rfl⟩,kvs,hD',dd⟩
        rw [show (1+(r.of p.rule.s:Int) - 1).toNat=r.of p.rule.s by omega] at dd
        have h3:=h1.same s2
        have gy:=h3.rd.getAg p.y
        rw [st.po.symY] at gy
        refine ⟨_,rfl,A.p,C,A.dx,_,_,rfl,h3.obj,T.cl,T.nMore,recF_more A,_,rfl,A.p,C,A.dx,_,_,rfl,h3.obj,T.cl,T.nAgents,recF_agents A,_,rfl,A.ag,nV p.rule.t,rfl,gy,A.mp,_,(p.rule.t:Int),nV (r.of p.rule.t),rfl,rfl,SqL.of h3.mp,nats_at hly,_,_,rfl,rfl,1,1+(r.of p.rule.t:Int),rfl,⟨by decide,by decide,by omega,by omega⟩,
          for_range (lo:=1) (n:=(1+(r.of p.rule.t:Int) - 1).toNat) (fun j σ H'=>Same H H'∧(∃ lo c,σ=[some (.ref A.p),some (.ref d.q),lo,some (nV p.x),some (nV p.y),some (.ref D),c])∧∃ kvs,H' D=some (.dK kvs)∧DictIs kvs fun n=>if n / 4=p.x∧1≤n%4∧n%4≤r.of p.rule.s then some (64+n%4) else if n / 4=p.y∧1≤n%4∧n%4≤j then some (80+n%4) else none)
          ⟨s2,⟨_,_,rfl⟩,kvs,hD',dd.congr fun n=>by rw [if_neg (show ¬ (n / 4=p.y∧1≤n%4∧n%4≤0) by omega)]⟩ ?_ ?_⟩
        · rintro j σ H' hj ⟨s2,⟨lo,c,rfl⟩,kvs,hD',dd⟩
          have hl:=dd.len_le (B:=300) fun n hn=>by
            have hx:=st.x64
            have hy:=st.y64
            by_cases c:n / 4=p.x∧1≤n%4∧n%4≤r.of p.rule.s
            · omega
            · rw [if_neg c] at hn
              by_cases c2:n / 4=p.y∧1≤n%4∧n%4≤j
              · omega
              · rw [if_neg c2] at hn;cases hn
          refine ⟨_,rfl,_,_,rfl,rfl,_,rfl,_,rfl,_,_,rfl,rfl,.inl ⟨by decide,by decide⟩,_,rfl,_,_,rfl,rfl,D,_,rfl,DPut.n (n:=4*p.y+(1+j)) (m:=80+(1+j)) (by omega) (by omega) hD' (small1000 (by omega)),stay s2,⟨_,_,rfl⟩,_,upd_same,?_⟩
          refine (dd.putA (4*p.y+(1+j)) (80+(1+j))).congr fun n=>?_
          by_cases z:n=4*p.y+(1+j)
          · rw [if_pos z,if_neg (by omega),if_pos (by omega)]
            exact congrArg some (by omega)
          · rw [if_neg z]
            by_cases y:n / 4=p.x∧1≤n%4∧n%4≤r.of p.rule.s
            · rw [if_pos y,if_pos y]
            · rw [if_neg y,if_neg y]
              by_cases y2:n / 4=p.y∧1≤n%4∧n%4≤j
              · rw [if_pos y2,if_pos (by omega)]
              · rw [if_neg y2,if_neg (by omega)]
        · rintro σ H' ⟨s2,⟨lo,c,rfl⟩,kvs,hD',dd⟩
          rw [show (1+(r.of p.rule.t:Int) - 1).toNat=r.of p.rule.t by omega] at dd
          exact ⟨_,rfl,k H' D kvs hD s2 hD' dd⟩
end
theorem RecAt.lock {C CR:Addr} {H H' : Hp} {A:RecAd} {r:Nets.Rec} {D E:Addr} {u f:HO} (h:RecAt C CR H A r) (nD:D∉A.fp) (hE:H E=none) (fr:∀ b o,upd (upd H E u) D f b=some o→b≠E→H' b=some o):RecAt C CR H' A r :=
  h.frame fun b hb o e=>fr b o (by rw [upd_ne (fun z=>nD (by rw [← z];exact hb)),upd_ne (ne_of_none e hE)];exact e) (ne_of_none e hE)
theorem RecAt.setAJ {C CR:Addr} {H H' : Hp} {A:RecAd} {r:Nets.Rec} (h:RecAt C CR H A r) {sy li:List (Option Nat)} {kva kvj:List (Key × V)} (k:∀ b,b≠A.ag→b≠A.jo→∀ o,H b=some o→H' b=some o)
    (ea:H' A.ag=some (.dK kva)) (da:DictIs kva fun a=>sy.getD a none) (ej:H' A.jo=some (.dK kvj)) (dj:DictIs kvj fun a=>li.getD a none):RecAt C CR H' A ⟨r.arity,r.rules,sy,li⟩:=by
  have ap:=h.ap
  refine ⟨ap,k _ ap.pa ap.pj _ h.obj,k _ ap.ma ap.mj _ h.mp,⟨kva,ea,da⟩,⟨kvj,ej,dj⟩,k _ ap.ra ap.rj _ h.ru,h.rlen,fun i a R h1 h2=>(h.rule i a R h1 h2).frame fun b hb=>?_⟩
  have q:=ap.rl a (List.mem_of_getElem? h1) b hb
  exact k b q.2.2.2.1 q.2.2.2.2
def keyN (q:Key × V):Nat:=(intKey q.1).toNat
theorem keyN_inl {n:Nat} {v:V}:keyN (.inl (n:Int),v)=n:=by
  show ((n:Int)).toNat=n
  omega
section
variable {P:Program} {w:World} {K:PySem.W.Frag} {mg:Str→Option Value} {base:Heap} {C CR:Addr}
def spInner (C CR:Addr):Sp:=fun vs H Q _=>∃ (A:RecAd) (r:Nets.Rec) (a b:Nat) (p:Nets.Pair) (D:Addr) (kvs:List (Key × V)),vs=[.ref A.p,.ref D]∧RecAt C CR H A r∧Stp r a b p∧H D=some (.dK kvs)∧DictIs kvs (placeF r p)∧D∉A.fp ∧
  ∀ H' E kve,H E=none→Same H H'→H' E=some (.dK kve)→DictIs kve (onw r p)→Q (.ref E) H'
theorem sc_inner_joins:FnScope ["record", "places", "onward", "port", "other"] ["record", "places"] (defScope s_inner_joins):=⟨rfl,rfl,rfl,by decide +kernel,rfl,by decide +kernel,by decide +kernel⟩
theorem ok_inner_joins {f:Addr} {fd:FuncData} (F:Fun K "inner_joins" "inner_joins" s_inner_joins f fd) (T:Txt K mg C CR):FnOk P w K mg base CX0 1 f fd ["record", "places"] (spInner C CR):=by
  refine F.ok sc_inner_joins (fun vs H Q E h=>?_) (fun cdv A0 outer s H vs Q E hr h=>?_)
  · obtain ⟨A,r,a,b,p,D,kvs,rfl,_⟩:=h
    rfl
  · obtain ⟨A,r,a,b,p,D,kvs,rfl,h1,st,hD,dd,nD,k⟩:=h
    have nd:=sc_inner_joins.nd
    have hu:=hu_of hr
    refine ⟨_,(pss_cons (ps_set (i:=2) nd rfl (Or.inl rfl) pe_dnewK) (pss_cons (ps_lock (ps_for PassesOwn.never rfl (pi_keys (pv 1)) (pg_name (i:=3) nd rfl (Or.inl rfl)) (pss_cons (ps_set (i:=4) nd rfl (Or.inl rfl) (pe_dget hu (pe_fld (pv 0) rfl) (pv 3) (fun _ _=>rfl))) (pss_one (ps_if (pt_cmp (pc_din hu (pv 4) (pv 1))) (pss_one (ps_dput hu (pv 2) (pe_dget hu (pv 1) (pv 3) (fun _ _=>rfl)) (pe_dget hu (pv 1) (pv 4) (fun _ _=>rfl)) rfl)) pss_nil))))) (pss_one (ps_ret (pv 2))))),?_⟩
    intro E hE
    have neD:D≠E:=ne_of_none hD hE
    have s1:Same H (upd H E (.dK [])):=Same.upd (Same.refl _) hE
    refine ⟨D,.dK kvs,s1 _ _ hD,True.intro,fun od=>⟨_,rfl,D,od,rfl,.inl ⟨kvs,upd_same,?_⟩⟩⟩
    generalize hHl:upd (upd H E (.dK [])) D (.frz od (.dK kvs))=Hl
    have hlD:Hl D=some (.frz od (.dK kvs)):=by rw [← hHl];exact upd_same
    have bound:∀ {L:List Nat},∀ n,((if n∈L then onw r p n else none)).isSome=true→n<84:=fun {L} n hn=>by
      by_cases c:n∈L
      · rw [if_pos c] at hn
        unfold onw at hn
        by_cases c2:IsOld r p n
        · have:=c2.cases st
          omega
        · rw [if_neg c2] at hn;cases hn
      · rw [if_neg c] at hn;cases hn
    refine for_keys (fun i σ H'=>(∀ b o,Hl b=some o→b≠E→H' b=some o)∧(∃ x y,σ=[some (.ref A.p),some (.ref D),some (.ref E),x,y])∧∃ kve,H' E=some (.dK kve)∧DictIs kve fun e=>if e∈(kvs.map fun q=>(placeF r p (keyN q)).getD 0).take i then onw r p e else none)
      ⟨fun b o e _=>e,⟨none,none,rfl⟩,[],by rw [← hHl,upd_ne neD.symm];exact upd_same,⟨List.nodup_nil,fun n=>by rw [if_neg (by simp)];rfl,fun k hk=>absurd hk (by simp)⟩⟩ (fun i σ H' _ ⟨e,_⟩=>e _ _ hlD neD) ?_ ?_
    · rintro i ky v σ H' hi ⟨fr,⟨x,y,rfl⟩,kve,hE',de⟩
      obtain ⟨n,rfl⟩:=dd.key ky (List.mem_map.mpr ⟨_,List.mem_of_getElem? hi,rfl⟩)
      have hsn:=(dd.mem n).mp (List.mem_map.mpr ⟨_,List.mem_of_getElem? hi,rfl⟩)
      obtain ⟨e,he⟩:=Option.isSome_iff_exists.mp hsn
      obtain ⟨o1,o2,o3,o4⟩:=place_old st he
      obtain ⟨z,hz⟩:=old_at st o1
      have hz' : r.at_ n=some z:=by rw [← o2];exact hz
      have hes:(kvs.map fun q=>(placeF r p (keyN q)).getD 0)[i]?=some e:=by
        rw [List.getElem?_map,hi,Option.map_some,keyN_inl,he];rfl
      have hk2:=take_snoc hes
      have hR:RecAt C CR H' A r:=h1.lock (D:=D) (E:=E) (u:=.dK []) (f:=.frz od (.dK kvs)) nD hE fun b o e ne=>fr b o (by rw [← hHl];exact e) ne
      have hD':=fr _ _ hlD neD
      have get:∀ n m:Nat,placeF r p n=some m→DGet H' D (nV n) (some (nV m)):=fun n m e=>by
        have q:=DGet.frz (k:=Sum.inl (n:Int)) hD'
        rw [dd.val,e] at q
        exact q
      have gz:=hR.rd.getJo n
      rw [hz'] at gz
      have hlen:=de.len_le (B:=84) (fun n hn=>bound n hn)
      refine ⟨_,rfl,A.p,C,A.dx,_,_,rfl,hR.obj,T.cl,T.nJoined,recF_joined A,_,rfl,A.jo,nV z,rfl,gz,?_⟩
      refine ⟨_,rfl,_,rfl,D,_,rfl,DGet.frz (k:=Sum.inl (z:Int)) hD',_,rfl,?_⟩
      rw [dd.val]
      have fr2:∀ {u:HO},∀ b o,Hl b=some o→b≠E→upd H' E u b=some o:=fun {u} b o eb ne=>by rw [upd_ne ne];exact fr b o eb ne
      have val:onw r p e=placeF r p z:=by
        unfold onw
        rw [if_pos o1,hz]
        rfl
      cases hp:placeF r p z with
      | none =>
        refine iteF ⟨fr,⟨_,_,rfl⟩,kve,hE',de.congr fun m=>?_⟩
        rw [hk2]
        by_cases c:m=e
        · subst c
          have q:onw r p m=none:=by rw [val,hp] <;> rfl
          rw [q]
          split <;> split <;> rfl
        · by_cases c2:m∈(kvs.map fun q=>(placeF r p (keyN q)).getD 0).take i
          · rw [if_pos c2,if_pos (List.mem_append_left _ c2)]
          · rw [if_neg c2,if_neg (by simp [c,c2])]
      | some e2 =>
        have q:onw r p e=some e2:=by rw [val,hp] <;> rfl
        refine iteT ⟨_,rfl,_,rfl,D,nV e2,rfl,get _ _ hp,_,rfl,_,rfl,_,rfl,D,nV e,rfl,get _ _ he,E,_,rfl,DPut.k (k:=Sum.inl (e:Int)) hE' (small1000 (by omega)),fr2,⟨_,_,rfl⟩,_,upd_same,(de.putA e e2).congr fun m=>?_⟩
        rw [hk2]
        by_cases c:m=e
        · subst c
          rw [if_pos rfl,if_pos (by simp),q]
        · rw [if_neg c]
          by_cases c2:m∈(kvs.map fun q=>(placeF r p (keyN q)).getD 0).take i
          · rw [if_pos c2,if_pos (List.mem_append_left _ c2)]
          · rw [if_neg c2,if_neg (by simp [c,c2])]
    · rintro σ H' ⟨fr,⟨x,y,rfl⟩,kve,hE',de⟩
      refine ⟨fr _ _ hlD neD,_,rfl,k _ E kve hE ?_ ?_ (de.congr fun e=>?_)⟩
      · intro b o eb
        have nb:b≠E:=ne_of_none eb hE
        by_cases z:b=D
        · subst z
          rw [upd_same]
          rw [hD] at eb
          exact eb
        · rw [upd_ne z]
          exact fr b o (by rw [← hHl,upd_ne z,upd_ne nb];exact eb) nb
      · rw [upd_ne neD.symm];exact hE'
      · have el:(kvs.map fun q=>(placeF r p (keyN q)).getD 0).length=kvs.length:=List.length_map ..
        rw [← el,List.take_length]
        by_cases c:IsOld r p e
        · have q:=(dd.mem (Nets.oldPort p e)).mpr (by rw [old_place st c];rfl)
          obtain ⟨x,hx,ex⟩:=List.mem_map.mp q
          rw [if_pos]
          refine List.mem_map.mpr ⟨x,hx,?_⟩
          have e3:keyN x=Nets.oldPort p e:=by
            obtain ⟨x1,x2⟩:=x
            have ex:x1=.inl ((Nets.oldPort p e:Nat):Int):=ex
            subst ex
            exact keyN_inl
          rw [e3,old_place st c]
          rfl
        · have q:onw r p e=none:=by unfold onw;rw [if_neg c]
          rw [q]
          split <;> rfl
def spOuter (C CR:Addr):Sp:=fun vs H Q _=>∃ (A:RecAd) (r:Nets.Rec) (a b:Nat) (p:Nets.Pair) (D:Addr) (kvs:List (Key × V)),vs=[.ref A.p,.ref D]∧RecAt C CR H A r∧Stp r a b p∧H D=some (.dK kvs)∧DictIs kvs (placeF r p)∧D∉A.fp ∧
  ∀ H' E kve,H E=none→Same H H'→H' E=some (.dK kve)→DictIs kve (outF r p)→Q (.ref E) H'
theorem sc_outer_ends:FnScope ["record", "places", "ends", "port", "other"] ["record", "places"] (defScope s_outer_ends):=⟨rfl,rfl,rfl,by decide +kernel,rfl,by decide +kernel,by decide +kernel⟩
theorem ok_outer_ends {f:Addr} {fd:FuncData} (F:Fun K "outer_ends" "outer_ends" s_outer_ends f fd) (T:Txt K mg C CR):FnOk P w K mg base CX0 1 f fd ["record", "places"] (spOuter C CR):=by
  refine F.ok sc_outer_ends (fun vs H Q E h=>?_) (fun cdv A0 outer s H vs Q E hr h=>?_)
  · obtain ⟨A,r,a,b,p,D,kvs,rfl,_⟩:=h
    rfl
  · obtain ⟨A,r,a,b,p,D,kvs,rfl,h1,st,hD,dd,nD,k⟩:=h
    have nd:=sc_outer_ends.nd
    have hu:=hu_of hr
    refine ⟨_,(pss_cons (ps_set (i:=2) nd rfl (Or.inl rfl) pe_dnewK) (pss_cons (ps_lock (ps_for PassesOwn.never rfl (pi_keys (pv 1)) (pg_name (i:=3) nd rfl (Or.inl rfl)) (pss_cons (ps_set (i:=4) nd rfl (Or.inl rfl) (pe_dget hu (pe_fld (pv 0) rfl) (pv 3) (fun _ _=>rfl))) (pss_one (ps_if (pt_cmp (pc_dnotin hu (pv 4) (pv 1))) (pss_one (ps_dput hu (pv 2) (pe_dget hu (pv 1) (pv 3) (fun _ _=>rfl)) (pv 4) rfl)) pss_nil))))) (pss_one (ps_ret (pv 2))))),?_⟩
    intro E hE
    have neD:D≠E:=ne_of_none hD hE
    have s1:Same H (upd H E (.dK [])):=Same.upd (Same.refl _) hE
    refine ⟨D,.dK kvs,s1 _ _ hD,True.intro,fun od=>⟨_,rfl,D,od,rfl,.inl ⟨kvs,upd_same,?_⟩⟩⟩
    generalize hHl:upd (upd H E (.dK [])) D (.frz od (.dK kvs))=Hl
    have hlD:Hl D=some (.frz od (.dK kvs)):=by rw [← hHl];exact upd_same
    have bound:∀ {L:List Nat},∀ n,((if n∈L then outF r p n else none)).isSome=true→n<84:=fun {L} n hn=>by
      by_cases c:n∈L
      · rw [if_pos c] at hn
        unfold outF at hn
        by_cases c2:IsOld r p n
        · have:=c2.cases st
          omega
        · rw [if_neg c2] at hn;cases hn
      · rw [if_neg c] at hn;cases hn
    refine for_keys (fun i σ H'=>(∀ b o,Hl b=some o→b≠E→H' b=some o)∧(∃ x y,σ=[some (.ref A.p),some (.ref D),some (.ref E),x,y])∧∃ kve,H' E=some (.dK kve)∧DictIs kve fun e=>if e∈(kvs.map fun q=>(placeF r p (keyN q)).getD 0).take i then outF r p e else none)
      ⟨fun b o e _=>e,⟨none,none,rfl⟩,[],by rw [← hHl,upd_ne neD.symm];exact upd_same,⟨List.nodup_nil,fun n=>by rw [if_neg (by simp)];rfl,fun k hk=>absurd hk (by simp)⟩⟩ (fun i σ H' _ ⟨e,_⟩=>e _ _ hlD neD) ?_ ?_
    · rintro i ky v σ H' hi ⟨fr,⟨x,y,rfl⟩,kve,hE',de⟩
      obtain ⟨n,rfl⟩:=dd.key ky (List.mem_map.mpr ⟨_,List.mem_of_getElem? hi,rfl⟩)
      have hsn:=(dd.mem n).mp (List.mem_map.mpr ⟨_,List.mem_of_getElem? hi,rfl⟩)
      obtain ⟨e,he⟩:=Option.isSome_iff_exists.mp hsn
      obtain ⟨o1,o2,o3,o4⟩:=place_old st he
      obtain ⟨z,hz⟩:=old_at st o1
      have hz' : r.at_ n=some z:=by rw [← o2];exact hz
      have hes:(kvs.map fun q=>(placeF r p (keyN q)).getD 0)[i]?=some e:=by
        rw [List.getElem?_map,hi,Option.map_some,keyN_inl,he];rfl
      have hk2:=take_snoc hes
      have hR:RecAt C CR H' A r:=h1.lock (D:=D) (E:=E) (u:=.dK []) (f:=.frz od (.dK kvs)) nD hE fun b o e ne=>fr b o (by rw [← hHl];exact e) ne
      have hD':=fr _ _ hlD neD
      have get:∀ n m:Nat,placeF r p n=some m→DGet H' D (nV n) (some (nV m)):=fun n m e=>by
        have q:=DGet.frz (k:=Sum.inl (n:Int)) hD'
        rw [dd.val,e] at q
        exact q
      have gz:=hR.rd.getJo n
      rw [hz'] at gz
      have hlen:=de.len_le (B:=84) (fun n hn=>bound n hn)
      refine ⟨_,rfl,A.p,C,A.dx,_,_,rfl,hR.obj,T.cl,T.nJoined,recF_joined A,_,rfl,A.jo,nV z,rfl,gz,?_⟩
      refine ⟨_,rfl,_,rfl,D,_,rfl,DGet.frz (k:=Sum.inl (z:Int)) hD',_,rfl,?_⟩
      rw [dd.val]
      have fr2:∀ {u:HO},∀ b o,Hl b=some o→b≠E→upd H' E u b=some o:=fun {u} b o eb ne=>by rw [upd_ne ne];exact fr b o eb ne
      have val:outF r p e=if (placeF r p z).isNone=true then some z else none:=by
        unfold outF
        rw [if_pos o1,hz]
        rfl
      cases hp:placeF r p z with
      | none =>
        have q:outF r p e=some z:=by rw [val,hp] <;> rfl
        refine iteT ⟨_,rfl,_,rfl,_,rfl,_,rfl,D,nV e,rfl,get _ _ he,E,_,rfl,DPut.k (k:=Sum.inl (e:Int)) hE' (small1000 (by omega)),fr2,⟨_,_,rfl⟩,_,upd_same,(de.putA e z).congr fun m=>?_⟩
        rw [hk2]
        by_cases c:m=e
        · subst c
          rw [if_pos rfl,if_pos (by simp),q]
        · rw [if_neg c]
          by_cases c2:m∈(kvs.map fun q=>(placeF r p (keyN q)).getD 0).take i
          · rw [if_pos c2,if_pos (List.mem_append_left _ c2)]
          · rw [if_neg c2,if_neg (by simp [c,c2])]
      | some e2 =>
        refine iteF ⟨fr,⟨_,_,rfl⟩,kve,hE',de.congr fun m=>?_⟩
        rw [hk2]
        by_cases c:m=e
        · subst c
          have q:outF r p m=none:=by rw [val,hp] <;> rfl
          rw [q]
          split <;> split <;> rfl
        · by_cases c2:m∈(kvs.map fun q=>(placeF r p (keyN q)).getD 0).take i
          · rw [if_pos c2,if_pos (List.mem_append_left _ c2)]
          · rw [if_neg c2,if_neg (by simp [c,c2])]
    · rintro σ H' ⟨fr,⟨x,y,rfl⟩,kve,hE',de⟩
      refine ⟨fr _ _ hlD neD,_,rfl,k _ E kve hE ?_ ?_ (de.congr fun e=>?_)⟩
      · intro b o eb
        have nb:b≠E:=ne_of_none eb hE
        by_cases z:b=D
        · subst z
          rw [upd_same]
          rw [hD] at eb
          exact eb
        · rw [upd_ne z]
          exact fr b o (by rw [← hHl,upd_ne z,upd_ne nb];exact eb) nb
      · rw [upd_ne neD.symm];exact hE'
      · have el:(kvs.map fun q=>(placeF r p (keyN q)).getD 0).length=kvs.length:=List.length_map ..
        rw [← el,List.take_length]
        by_cases c:IsOld r p e
        · have q:=(dd.mem (Nets.oldPort p e)).mpr (by rw [old_place st c];rfl)
          obtain ⟨x,hx,ex⟩:=List.mem_map.mp q
          rw [if_pos]
          refine List.mem_map.mpr ⟨x,hx,?_⟩
          have e3:keyN x=Nets.oldPort p e:=by
            obtain ⟨x1,x2⟩:=x
            have ex:x1=.inl ((Nets.oldPort p e:Nat):Int):=ex
            subst ex
            exact keyN_inl
          rw [e3,old_place st c]
          rfl
        · have q:outF r p e=none:=by unfold outF;rw [if_neg c]
          rw [q]
          split <;> rfl
end
def took (r:Nets.Rec) (p:Nets.Pair):Nets.Rec:=⟨r.arity,r.rules,(List.range 64).map fun (n:Nat)=>if n=p.x∨n=p.y then none else r.symAt n,(List.range 272).map (baseF r p)⟩
def brought (r:Nets.Rec) (p:Nets.Pair) (i:Nat):Nets.Rec:=⟨r.arity,r.rules,(List.range 64).map fun (n:Nat)=>if n∈(r.numbers p).take i then p.rule.news[(r.numbers p).idxOf n]? else if n=p.x∨n=p.y then none else r.symAt n,(List.range 272).map (baseF r p)⟩
section
variable {r:Nets.Rec} {a b:Nat} {p:Nets.Pair}
theorem took_sym (st:Stp r a b p) (n:Nat):(took r p).symAt n=if n=p.x∨n=p.y then none else r.symAt n:=by
  show ((List.range 64).map fun (n:Nat)=>if n=p.x∨n=p.y then none else r.symAt n).getD n none=_
  rw [getD_map_range]
  by_cases c:n<64
  · rw [if_pos c]
  · rw [if_neg c]
    cases e:r.symAt n with
    | none=>split <;> rfl
    | some s=>exact absurd (st.ok.sym_lt (by rw [e];rfl)) c
theorem took_at (st:Stp r a b p) (n:Nat):(took r p).at_ n=baseF r p n:=by
  show ((List.range 272).map (baseF r p)).getD n none=_
  rw [getD_map_range]
  by_cases c:n<272
  · rw [if_pos c]
  · rw [if_neg c]
    unfold baseF
    cases e:r.at_ n with
    | none=>split <;> rfl
    | some s=>exact absurd (st.ok.at_lt (by rw [e];rfl)) c
theorem brought_sym (i n:Nat):(brought r p i).symAt n=if n<64 then (if n∈(r.numbers p).take i then p.rule.news[(r.numbers p).idxOf n]? else if n=p.x∨n=p.y then none else r.symAt n) else none:=by
  show ((List.range 64).map fun (n:Nat)=>if n∈(r.numbers p).take i then p.rule.news[(r.numbers p).idxOf n]? else if n=p.x∨n=p.y then none else r.symAt n).getD n none=_
  rw [getD_map_range]
theorem brought_zero:brought r p 0=took r p:=by
  unfold brought took
  congr 1
theorem brought_low (st:Stp r a b p) {i n:Nat} (hi:(r.numbers p)[i]?=some n):(∀ c,c<n→((brought r p i).symAt c).isSome=true)∧(brought r p i).symAt n=none:=by
  have hm:=List.mem_of_getElem? hi
  obtain ⟨n64,hn⟩:=nsMem hm
  have hil:=(List.getElem?_eq_some_iff.mp hi).1
  constructor
  · intro c hc
    rw [brought_sym,if_pos (by omega)]
    by_cases cm:c∈freeL r p
    · obtain ⟨j,hj⟩:=List.getElem?_of_mem cm
      have hif:(freeL r p)[i]?=some n:=by
        rw [numbers_eq] at hi hil
        rw [List.getElem?_take_of_lt (by rw [List.length_take] at hil;omega)] at hi
        exact hi
      have hji:j<i:=by
        refine Decidable.byContradiction fun z=>?_
        by_cases e:j=i
        · subst e
          rw [hj] at hif
          have:=Option.some.inj hif
          omega
        · obtain ⟨h1,h2⟩:=List.getElem?_eq_some_iff.mp hj
          obtain ⟨h3,h4⟩:=List.getElem?_eq_some_iff.mp hif
          have:=List.pairwise_iff_getElem.mp (freeL_sorted r p) i j h3 h1 (by omega)
          omega
      have hjn:(r.numbers p)[j]?=some c:=by
        rw [numbers_eq,List.getElem?_take_of_lt (by rw [numbers_eq,List.length_take] at hil;omega)]
        exact hj
      have hmt:c∈(r.numbers p).take i:=List.mem_of_getElem? (i:=j) (by rw [List.getElem?_take_of_lt hji];exact hjn)
      rw [if_pos hmt]
      have hx:=List.idxOf_lt_length_of_mem (List.mem_of_mem_take hmt)
      rw [st.nsLen] at hx
      rw [List.getElem?_eq_getElem hx]
      rfl
    · have q:¬ (c<64∧(r.symAt c=none∨c=p.x∨c=p.y)):=fun z=>cm (freeL_mem.mpr z)
      have q1:r.symAt c≠none:=fun z=>q ⟨by omega,.inl z⟩
      have q2:¬ (c=p.x∨c=p.y):=fun z=>q ⟨by omega,.inr z⟩
      rw [if_neg (show ¬ c∈(r.numbers p).take i from fun z=>cm (List.mem_of_mem_take (List.mem_of_mem_take z))),if_neg q2]
      cases e:r.symAt c with
      | none=>exact absurd e q1
      | some s=>rfl
  · rw [brought_sym,if_pos n64,if_neg (nd_take (nsNd r p) hi (Nat.le_refl _))]
    by_cases c:n=p.x∨n=p.y
    · rw [if_pos c]
    · rw [if_neg c]
      rcases hn with q | q
      · exact q
      · exact absurd q c
end
section
variable {P:Program} {w:World} {K:PySem.W.Frag} {mg:Str→Option Value} {base:Heap} {C CR:Addr}
def spTakeOut (C CR:Addr):Sp:=fun vs H Q _=>∃ (A:RecAd) (r:Nets.Rec) (a b:Nat) (p:Nets.Pair) (D:Addr) (kvs:List (Key × V)),vs=[.ref A.p,nV a,.ref D]∧RecAt C CR H A r∧Stp r a b p∧H D=some (.dK kvs)∧DictIs kvs (placeF r p)∧D∉A.fp ∧
  ∀ H',RecAt C CR H' A (took r p)→(∀ c o,H c=some o→c≠A.ag→c≠A.jo→H' c=some o)→Q .non H'
def symO (r:Nets.Rec) (a b i n:Nat):Option Nat:=if (1≤i∧n=a)∨(2≤i∧n=b) then none else r.symAt n
def lnkO (r:Nets.Rec) (a b i n:Nat):Option Nat:=if (1≤i∧n=4*a)∨(2≤i∧n=4*b) then none else r.at_ n
theorem sc_take_out_pair:FnScope ["record", "lower", "places", "other", "agent", "port"] ["record", "lower", "places"] (defScope s_take_out_pair):=⟨rfl,rfl,rfl,by decide +kernel,rfl,by decide +kernel,by decide +kernel⟩
theorem ok_take_out_pair {f:Addr} {fd:FuncData} (F:Fun K "take_out_pair" "take_out_pair" s_take_out_pair f fd) (T:Txt K mg C CR) (D_facing_agent:Df P w K mg base "facing_agent" ["record", "agent"] 1 (spFacing C)):FnOk P w K mg base CX0 2 f fd ["record", "lower", "places"] (spTakeOut C CR):=by
  refine F.ok sc_take_out_pair (fun vs H Q E h=>?_) (fun cdv A0 outer s H vs Q E hr h=>?_)
  · obtain ⟨A,r,a,b,p,D,kvs,rfl,_⟩:=h
    rfl
  · obtain ⟨A,r,a,b,p,D,kvs,rfl,h1,st,hD,dd,nD,k⟩:=h
    have nd:=sc_take_out_pair.nd
    have hu:=hu_of hr
    have ap:=h1.ap
    have hab:=st.po.lt
    have at0:=st.po.at0
    have at1:=(st.ok.linkOk _ _ at0).2.2.1
    obtain ⟨sa,hsa⟩:=st.po.symA
    obtain ⟨sb,hsb⟩:=st.po.symB
    obtain ⟨kva0,hag0,dag0⟩:=h1.ag
    obtain ⟨kvj0,hjo0,djo0⟩:=h1.jo
    have nDa:D≠A.ag:=fun z=>nD (by rw [z];exact A.mem_ag)
    have nDj:D≠A.jo:=fun z=>nD (by rw [z];exact A.mem_jo)
    refine ⟨_,(pss_cons (ps_set (i:=3) nd rfl (Or.inl rfl) (pe_callD D_facing_agent (hr.mono (by decide)) rfl (pa_cons (pv 0) (pa_cons (pv 1) pa_nil)))) (pss_cons (ps_for PassesOwn.never rfl (pi_tup (pe_tup (pa_cons (pv 1) (pa_cons (pv 3) pa_nil)))) (pg_name (i:=4) nd rfl (Or.inl rfl)) (pss_cons (ps_expr (pe_dpop1 (pe_fld (pv 0) rfl) (pv 4) ⟨rfl,rfl,rfl,rfl⟩)) (pss_one (ps_expr (pe_dpop1 (pe_fld (pv 0) rfl) (pe_op op_mul (pe_glV rfl T.c_PORTS_APART) (pv 4)) ⟨rfl,rfl,rfl,rfl⟩))))) (pss_one (ps_lock (ps_for PassesOwn.never rfl (pi_keys (pv 2)) (pg_name (i:=5) nd rfl (Or.inl rfl)) (pss_one (ps_expr (pe_dpop1 (pe_fld (pv 0) rfl) (pv 5) ⟨rfl,rfl,rfl,rfl⟩)))))))),?_⟩
    refine ⟨_,rfl,_,rfl,A,r,a,4*b,rfl,h1.rd,at0,?_⟩
    rw [show 4*b / 4=b by omega]
    refine ⟨_,rfl,_,rfl,(by show 2≤sizeLine;decide),fun t ht=>?_⟩
    have s1:Same H (upd H t (.tup [nV a,nV b])):=Same.upd (Same.refl _) ht
    have nta:t≠A.ag:=fun z=>by rw [z,hag0] at ht;cases ht
    have ntj:t≠A.jo:=fun z=>by rw [z,hjo0] at ht;cases ht
    generalize hH1:upd H t (.tup [nV a,nV b])=H1 at *
    have htt:H1 t=some (.tup [nV a,nV b]):=by rw [← hH1];exact upd_same
    refine ⟨t,rfl,⟨_,SqT.of htt⟩,for_tup (K:=K) (a:=t) (xs:=[nV a,nV b]) (fun i σ H'=>(∀ c o,H1 c=some o→c≠A.ag→c≠A.jo→H' c=some o)∧(∃ y,σ=[some (.ref A.p),some (nV a),some (.ref D),some (nV b),y,none])∧(∃ kva,H' A.ag=some (.dK kva)∧DictIs kva (symO r a b i))∧∃ kvj,H' A.jo=some (.dK kvj)∧DictIs kvj (lnkO r a b i))
      ⟨fun c o e _ _=>e,⟨_,rfl⟩,⟨kva0,s1 _ _ hag0,dag0.congr fun n=>by unfold symO;rw [if_neg (by omega)]⟩,kvj0,s1 _ _ hjo0,djo0.congr fun n=>by unfold lnkO;rw [if_neg (by omega)]⟩ (fun i σ H' _ ⟨e,_⟩=>SqT.of (e _ _ htt nta ntj)) ?_ ?_⟩
    · rintro i x σ H' hx ⟨fr,⟨y,rfl⟩,⟨kva,hag,dag⟩,kvj,hjo,djo⟩
      have hil:i<2:=(List.getElem?_eq_some_iff.mp hx).1
      obtain ⟨c,s,z,hc,hsc,hac,hci⟩ : ∃ c s z,x=nV c∧r.symAt c=some s∧r.at_ (4*c)=some z∧((i=0∧c=a)∨(i=1∧c=b)):=by
        by_cases h0:i=0
        · subst h0
          exact ⟨a,sa,_,(Option.some.inj hx).symm,hsa,at0,.inl ⟨rfl,rfl⟩⟩
        · have h1:i=1:=by omega
          subst h1
          exact ⟨b,sb,_,(Option.some.inj hx).symm,hsb,at1,.inr ⟨rfl,rfl⟩⟩
      subst hc
      have hobj:H' A.p=some (.ins C A.dx (recF A)):=fr _ _ (s1 _ _ h1.obj) ap.pa ap.pj
      have v1:valV kva (.inl (c:Int))=some (nV s):=by
        rw [dag.val]
        unfold symO
        rw [if_neg (by omega),hsc];rfl
      have v2:valV kvj (.inl ((4*c:Nat):Int))=some (nV z):=by
        rw [djo.val]
        unfold lnkO
        rw [if_neg (by omega),hac];rfl
      refine ⟨_,rfl,A.p,C,A.dx,_,_,rfl,hobj,T.cl,T.nAgents,recF_agents A,A.ag,rfl,.inl ⟨kva,.inl hag⟩,_,rfl,kva,Sum.inl (c:Int),nV s,hag,rfl,v1,?_⟩
      have hobj2:(upd H' A.ag (.dK (dropK kva (.inl (c:Int))))) A.p=some (.ins C A.dx (recF A)):=by rw [upd_ne ap.pa];exact hobj
      have hjo2:(upd H' A.ag (.dK (dropK kva (.inl (c:Int))))) A.jo=some (.dK kvj):=by rw [upd_ne ap.aj.symm];exact hjo
      refine ⟨_,rfl,A.p,C,A.dx,_,_,rfl,hobj2,T.cl,T.nJoined,recF_joined A,A.jo,rfl,.inl ⟨kvj,.inl hjo2⟩,_,rfl,_,_,rfl,rfl,.inl ⟨by decide,by decide⟩,kvj,Sum.inl ((4*c:Nat):Int),nV z,hjo2,vint (by omega),v2,?_⟩
      refine ⟨fun c' o e n1 n2=>by rw [upd_ne n2,upd_ne n1];exact fr c' o e n1 n2,⟨_,rfl⟩,⟨_,by rw [upd_ne ap.aj];exact upd_same,(dag.drop c).congr fun n=>?_⟩,_,upd_same,(djo.drop (4*c)).congr fun n=>?_⟩
      · unfold symO
        by_cases e:n=c
        · rw [if_pos e,if_pos (by omega)]
        · rw [if_neg e]
          by_cases e2:(1≤i∧n=a)∨(2≤i∧n=b)
          · rw [if_pos e2,if_pos (by omega)]
          · rw [if_neg e2,if_neg (by omega)]
      · unfold lnkO
        by_cases e:n=4*c
        · rw [if_pos e,if_pos (by omega)]
        · rw [if_neg e]
          by_cases e2:(1≤i∧n=4*a)∨(2≤i∧n=4*b)
          · rw [if_pos e2,if_pos (by omega)]
          · rw [if_neg e2,if_neg (by omega)]
    · rintro σ H2 ⟨fr,⟨y,rfl⟩,⟨kva,hag,dag⟩,kvj,hjo,djo⟩
      have dag:DictIs kva (symO r a b 2):=dag
      have djo:DictIs kvj (lnkO r a b 2):=djo
      have hD2:H2 D=some (.dK kvs):=fr _ _ (s1 _ _ hD) nDa nDj
      refine ⟨D,.dK kvs,hD2,True.intro,fun od=>⟨_,rfl,D,od,rfl,.inl ⟨kvs,upd_same,?_⟩⟩⟩
      generalize hHl:upd H2 D (.frz od (.dK kvs))=Hl
      have hlD:Hl D=some (.frz od (.dK kvs)):=by rw [← hHl];exact upd_same
      have hlo:∀ c,c≠D→Hl c=H2 c:=fun c hc=>by rw [← hHl,upd_ne hc]
      have npD:A.p≠D:=fun z=>nD (by rw [← z];exact A.mem_p)
      refine for_keys (fun i σ H'=>(∀ c o,Hl c=some o→c≠A.jo→H' c=some o)∧(∃ y z,σ=[some (.ref A.p),some (nV a),some (.ref D),some (nV b),y,z])∧∃ kvj,H' A.jo=some (.dK kvj)∧DictIs kvj fun q=>if q∈(kvs.map keyN).take i then none else lnkO r a b 2 q)
        ⟨fun c o e _=>e,⟨_,_,rfl⟩,kvj,by rw [hlo _ nDj.symm];exact hjo,djo.congr fun q=>by rw [if_neg (by simp)]⟩ (fun i σ H' _ ⟨e,_⟩=>e _ _ hlD nDj) ?_ ?_
      · rintro i ky v σ H' hi ⟨fr2,⟨y,z,rfl⟩,kvj,hjo,djo⟩
        obtain ⟨n,rfl⟩:=dd.key ky (List.mem_map.mpr ⟨_,List.mem_of_getElem? hi,rfl⟩)
        have hsn:=(dd.mem n).mp (List.mem_map.mpr ⟨_,List.mem_of_getElem? hi,rfl⟩)
        obtain ⟨e,he⟩:=Option.isSome_iff_exists.mp hsn
        obtain ⟨o1,o2,o3,o4⟩:=place_old st he
        obtain ⟨m1,m2⟩:=oldPort_mod st o1
        rw [o2] at m1 m2
        obtain ⟨z2,hz2⟩:=old_at st o1
        rw [o2] at hz2
        have hks:(kvs.map keyN)[i]?=some n:=by rw [List.getElem?_map,hi,Option.map_some,keyN_inl]
        have knd:(kvs.map keyN).Nodup:=by
          have e:kvs.map (·.1)=(kvs.map keyN).map fun m:Nat=>(Sum.inl (m:Int):Key):=by
            rw [List.map_map]
            refine List.map_congr_left fun q hq=>?_
            obtain ⟨m,hm⟩:=dd.key q.1 (List.mem_map.mpr ⟨q,hq,rfl⟩)
            obtain ⟨q1,q2⟩:=q
            have hm:q1=.inl (m:Int):=hm
            subst hm
            show _=Sum.inl ((keyN (.inl (m:Int),q2):Nat):Int)
            rw [keyN_inl]
          have q:=dd.nd
          rw [e] at q
          exact List.Pairwise.of_map _ (fun x y hxy=>fun z=>hxy (by rw [z])) q
        have hobj:H' A.p=some (.ins C A.dx (recF A)):=fr2 _ _ (by rw [hlo _ npD];exact fr _ _ (s1 _ _ h1.obj) ap.pa ap.pj) ap.pj
        have xy:(p.x=a∧p.y=b)∨(p.x=b∧p.y=a):=by
          rcases st.po.xy with q | q
          · exact .inl ⟨q.1,q.2.1⟩
          · exact .inr ⟨q.1,q.2.1⟩
        have v2:valV kvj (.inl (n:Int))=some (nV z2):=by
          rw [djo.val,if_neg (nd_take knd hks (Nat.le_refl _))]
          unfold lnkO
          rw [if_neg (by omega),hz2];rfl
        refine ⟨_,rfl,A.p,C,A.dx,_,_,rfl,hobj,T.cl,T.nJoined,recF_joined A,A.jo,rfl,.inl ⟨kvj,.inl hjo⟩,_,rfl,kvj,Sum.inl (n:Int),nV z2,hjo,rfl,v2,?_⟩
        refine ⟨fun c o e hc=>by rw [upd_ne hc];exact fr2 c o e hc,⟨_,_,rfl⟩,_,upd_same,(djo.drop n).congr fun m=>?_⟩
        rw [take_snoc hks]
        by_cases c:m=n
        · rw [if_pos c,if_pos (by simp [c])]
        · rw [if_neg c]
          by_cases c2:m∈(kvs.map keyN).take i
          · rw [if_pos c2,if_pos (List.mem_append_left _ c2)]
          · rw [if_neg c2,if_neg (by simp [c,c2])]
      · rintro σ H' ⟨fr2,⟨y,z,rfl⟩,kvj,hjo,djo⟩
        refine ⟨fr2 _ _ hlD nDj,?_⟩
        have hfr:∀ c o,H c=some o→c≠A.ag→c≠A.jo→upd H' D (.dK kvs) c=some o:=fun c o e n1 n2=>by
          by_cases hc:c=D
          · subst hc
            rw [upd_same]
            rw [hD] at e
            exact e
          · rw [upd_ne hc]
            exact fr2 c o (by rw [hlo c hc];exact fr c o (s1 _ _ e) n1 n2) n2
        have xy:(p.x=a∧p.y=b)∨(p.x=b∧p.y=a):=by
          rcases st.po.xy with q | q
          · exact .inl ⟨q.1,q.2.1⟩
          · exact .inr ⟨q.1,q.2.1⟩
        have hx:=st.x64
        have hy:=st.y64
        refine k _ (h1.setAJ (fun c n1 n2 o e=>hfr c o e n1 n2) (kva:=kva) (by rw [upd_ne nDa.symm];exact fr2 _ _ (by rw [hlo _ nDa.symm];exact hag) ap.aj) (dag.congr fun n=>?_) (kvj:=kvj) (by rw [upd_ne nDj.symm];exact hjo) (djo.congr fun q=>?_)) hfr
        · have e:=took_sym st n
          show _=(took r p).symAt n
          rw [e]
          unfold symO
          by_cases c:n=p.x∨n=p.y
          · rw [if_pos c,if_pos (by omega)]
          · rw [if_neg c,if_neg (by omega)]
        · have e:=took_at st q
          show _=(took r p).at_ q
          rw [e]
          have el:(kvs.map keyN).length=kvs.length:=List.length_map ..
          rw [← el,List.take_length]
          have mem_iff:q∈kvs.map keyN↔(placeF r p q).isSome=true:=by
            rw [← dd.mem q,List.mem_map,List.mem_map]
            constructor
            · rintro ⟨x,hx,ex⟩
              obtain ⟨m,hm⟩:=dd.key x.1 (List.mem_map.mpr ⟨x,hx,rfl⟩)
              obtain ⟨x1,x2⟩:=x
              have hm:x1=.inl (m:Int):=hm
              subst hm
              rw [keyN_inl] at ex
              subst ex
              exact ⟨_,hx,rfl⟩
            · rintro ⟨x,hx,ex⟩
              obtain ⟨x1,x2⟩:=x
              have ex:x1=.inl (q:Int):=ex
              subst ex
              exact ⟨_,hx,keyN_inl⟩
          unfold baseF lnkO
          by_cases c:q∈kvs.map keyN
          · rw [if_pos c]
            obtain ⟨e2,he2⟩:=Option.isSome_iff_exists.mp (mem_iff.mp c)
            rw [if_neg (by rw [(place_old st he2).2.2.2];simp)]
          · rw [if_neg c]
            cases ho:Nets.outside p q with
            | true =>
              have o:=outside_iff.mp ho
              rw [if_pos rfl,if_neg (by omega)]
            | false =>
              rw [if_neg (show ¬ (false=true) by simp)]
              by_cases c2:(1≤2∧q=4*a)∨(2≤2∧q=4*b)
              · rw [if_pos c2]
              · rw [if_neg c2]
                cases e2:r.at_ q with
                | none=>rfl
                | some z =>
                  obtain ⟨l1,l2,l3,l4⟩:=st.ok.linkOk _ _ e2
                  have m1:z≠4*p.x:=fun e=>by
                    rw [e,st.at0x] at l3
                    have:=Option.some.inj l3
                    omega
                  have m2:z≠4*p.y:=fun e=>by
                    rw [e,st.at0y] at l3
                    have:=Option.some.inj l3
                    omega
                  obtain ⟨e3,he3⟩:=inside st l3 m1 m2 ho
                  exact absurd (mem_iff.mpr (by rw [he3];rfl)) c
def newF (r:Nets.Rec) (p:Nets.Pair) (L:List Nat) (e:Nat):Option Nat:=if e∈L then some (Nets.newPort (r.numbers p) e) else none
def spBring (C CR:Addr):Sp:=fun vs H Q _=>∃ (A:RecAd) (r:Nets.Rec) (a b:Nat) (p:Nets.Pair) (i:Nat) (d:RuleAd),vs=[.ref A.p,.ref d.q]∧RecAt C CR H A (took r p)∧Stp r a b p∧A.rl[i]?=some d∧r.rules[i]?=some p.rule ∧
  ∀ H' D kvs,H D=none→(∀ c o,H c=some o→c≠A.ag→H' c=some o)→H' D=some (.dK kvs)→DictIs kvs (newF r p (newPl r p.rule.news))→RecAt C CR H' A (brought r p p.rule.news.length)→Q (.ref D) H'
theorem sc_bring_new_agents:FnScope ["record", "rule", "ports", "i", "symbol", "agent", "j"] ["record", "rule"] (defScope s_bring_new_agents):=⟨rfl,rfl,rfl,by decide +kernel,rfl,by decide +kernel,by decide +kernel⟩
theorem ok_bring_new_agents {f:Addr} {fd:FuncData} (F:Fun K "bring_new_agents" "bring_new_agents" s_bring_new_agents f fd) (T:Txt K mg C CR) (D_lowest_free:Df P w K mg base "lowest_free" ["record"] 1 (spLowestFree C CR)):FnOk P w K mg base CX0 2 f fd ["record", "rule"] (spBring C CR):=by
  refine F.ok sc_bring_new_agents (fun vs H Q E h=>?_) (fun cdv A0 outer s H vs Q E hr h=>?_)
  · obtain ⟨A,r,a,b,p,i,d,rfl,_⟩:=h
    rfl
  · obtain ⟨A,r,a,b,p,i0,d,rfl,h1,st,hi1,hi2,k⟩:=h
    have nd:=sc_bring_new_agents.nd
    have hu:=hu_of hr
    have hi2:(took r p).rules[i0]?=some p.rule:=hi2
    have md:=st.ru.made
    obtain ⟨kva0,hag0,_⟩:=h1.ag
    refine ⟨_,(pss_cons (ps_set (i:=2) nd rfl (Or.inl rfl) pe_dnewK) (pss_cons (ps_for PassesOwn.never rfl (pi_enum rfl T.b_enumerate (pa_cons (pe_fld (pv 1) rfl) pa_nil)) (pg_tup rfl (pgs_cons (pg_name (i:=3) nd rfl (Or.inl rfl)) (pgs_cons (pg_name (i:=4) nd rfl (Or.inl rfl)) pgs_nil))) (pss_cons (ps_set (i:=5) nd rfl (Or.inl rfl) (pe_callD D_lowest_free (hr.mono (by decide)) rfl (pa_cons (pv 0) pa_nil))) (pss_cons (ps_dput hu (pe_fld (pv 0) rfl) (pv 5) (pv 4) rfl) (pss_one (ps_for PassesOwn.never rfl (pi_range1 rfl T.b_range (pa_cons (pe_op op_add pe_int (pe_ix ix_list (pe_fld (pv 0) rfl) (pv 4) (fun _ _=>rfl))) pa_nil)) (pg_name (i:=6) nd rfl (Or.inl rfl)) (pss_one (ps_dput hu (pv 2) (pe_op op_add (pe_op op_mul (pe_glV rfl T.c_PORTS_APART) (pv 3)) (pv 6)) (pe_op op_add (pe_op op_mul (pe_glV rfl T.c_PORTS_APART) (pv 5)) (pv 6)) rfl))))))) (pss_one (ps_ret (pv 2))))),?_⟩
    intro D hD
    have s1:Same H (upd H D (.dK [])):=Same.upd (Same.refl _) hD
    have nDa:D≠A.ag:=fun z=>by rw [z,hag0] at hD;cases hD
    have R0:=h1.rule i0 d _ hi1 hi2
    have R1:=(h1.same s1).rule i0 d _ hi1 hi2
    have nsy:d.sy≠A.ag:=(h1.ap.rl d (List.mem_of_getElem? hi1) d.sy (by simp [RuleAd.fp])).2.2.2.1
    refine ⟨_,rfl,d.q,CR,d.dq,_,_,rfl,R1.obj,T.clR,T.nSymbols,ruleF_symbols d p.rule,d.sy,nats p.rule.news,rfl,SqL.of R1.sy,for_enum (K:=K) (a:=d.sy) (xs:=nats p.rule.news) (fun i σ H'=>(∃ x y z w,σ=[some (.ref A.p),some (.ref d.q),some (.ref D),x,y,z,w])∧(∀ c o,H c=some o→c≠A.ag→H' c=some o)∧RecAt C CR H' A (brought r p i)∧∃ kvs,H' D=some (.dK kvs)∧DictIs kvs (newF r p (newPl r (p.rule.news.take i))))
      ⟨⟨_,_,_,_,rfl⟩,fun c o e _=>s1 _ _ e,by rw [brought_zero];exact h1.same s1,[],upd_same,⟨List.nodup_nil,fun n=>by unfold newF newPl;rw [if_neg (by simp)];rfl,fun k hk=>absurd hk (by simp)⟩⟩ (fun i σ H' _ ⟨_,fr,_,_⟩=>SqL.of (fr _ _ R0.sy nsy)) ?_ ?_⟩
    · rintro i x σ H' Tp hi hT ⟨⟨x0,y0,z0,w0,rfl⟩,fr,hR,kvs,hD',dd⟩
      have hi2:p.rule.news[i]?.map nV=some x:=by rw [← List.getElem?_map];exact hi
      obtain ⟨sym,hsym,rfl⟩:=Option.map_eq_some_iff.mp hi2
      have hlt:sym<r.arity.length:=md.sym sym (List.mem_of_getElem? hsym)
      have hil:i<p.rule.news.length:=(List.getElem?_eq_some_iff.mp hsym).1
      have osy:=of_le st.ok sym
      obtain ⟨n,hn,hnm,n64,hix,hgd⟩:=nsGet st hil
      have s3:Same H' (upd H' Tp (.tup [.int (i:Nat),nV sym])):=Same.upd (Same.refl _) hT
      generalize hH3:upd H' Tp (.tup [.int (i:Nat),nV sym])=H3 at *
      have h3:=hR.same s3
      have hTp:H3 Tp=some (.tup [.int (i:Nat),nV sym]):=by rw [← hH3];exact upd_same
      obtain ⟨lo1,lo2⟩:=brought_low st hn
      obtain ⟨kva,hag,dag⟩:=h3.ag
      have hla:=dag.len_le (B:=64) fun m hm=>by
        rw [brought_sym] at hm
        by_cases c:m<64
        · exact c
        · rw [if_neg c] at hm;cases hm
      refine ⟨Tp,_,rfl,SqT.of hTp,rfl,_,_,rfl,_,_,rfl,rfl,?_⟩
      refine ⟨_,rfl,A,brought r p i,n,rfl,h3,lo1,lo2,?_⟩
      refine ⟨_,rfl,_,rfl,A.p,C,A.dx,_,_,rfl,h3.obj,T.cl,T.nAgents,recF_agents A,_,rfl,A.ag,_,rfl,DPut.k (k:=Sum.inl (n:Int)) hag (small1000 (by omega)),?_⟩
      have h4:RecAt C CR (upd H3 A.ag (.dK (putK kva (.inl (n:Int)) (nV sym)))) A (brought r p (i+1)):=by
        have q:=h3.setAg (sy:=(brought r p (i+1)).sym) but_upd upd_same ((dag.putA n sym).congr fun m=>?_)
        · exact q
        · show _=(brought r p (i+1)).symAt m
          rw [brought_sym,brought_sym,take_snoc hn]
          by_cases c:m=n
          · subst c
            rw [if_pos rfl,if_pos n64,if_pos (by simp),hix,hsym]
          · rw [if_neg c]
            by_cases c2:m<64
            · rw [if_pos c2,if_pos c2]
              by_cases c3:m∈(r.numbers p).take i
              · rw [if_pos c3,if_pos (List.mem_append_left _ c3)]
              · rw [if_neg c3,if_neg (show ¬ m∈(r.numbers p).take i++[n] by simp [c,c3])]
            · rw [if_neg c2,if_neg c2]
      have fr4:∀ c o,H c=some o→c≠A.ag→upd H3 A.ag (.dK (putK kva (.inl (n:Int)) (nV sym))) c=some o:=fun c o e hc=>by
        rw [upd_ne hc]
        exact s3 _ _ (fr c o e hc)
      have hD4:upd H3 A.ag (.dK (putK kva (.inl (n:Int)) (nV sym))) D=some (.dK kvs):=by
        rw [upd_ne nDa]
        exact s3 _ _ hD'
      generalize upd H3 A.ag (.dK (putK kva (.inl (n:Int)) (nV sym)))=H4 at *
      have tl:(p.rule.news.take i).length=i:=by rw [List.length_take];omega
      refine ⟨_,rfl,A.p,C,A.dx,_,_,rfl,h4.obj,T.cl,T.nMore,recF_more A,_,rfl,A.mp,_,(sym:Int),nV (r.of sym),rfl,rfl,SqL.of h4.mp,nats_at hlt,_,_,rfl,rfl,1+(r.of sym:Int),rfl,by omega,by omega,
        for_range (n:=(1+(r.of sym:Int)).toNat) (fun j σ H'=>(∃ w,σ=[some (.ref A.p),some (.ref d.q),some (.ref D),some (.int (i:Nat)),some (nV sym),some (nV n),w])∧(∀ c o,H4 c=some o→c≠D→H' c=some o)∧∃ kvs,H' D=some (.dK kvs)∧DictIs kvs (newF r p (newPl r (p.rule.news.take i)++(List.range j).map fun q=>4*i+q)))
        ⟨⟨_,rfl⟩,fun c o e _=>e,kvs,hD4,dd.congr fun e=>by simp⟩ ?_ ?_⟩
      · rintro j σ H5 hj ⟨⟨w,rfl⟩,fr5,kvs,hD5,dd⟩
        have h6:=md.n6
        have hl:=dd.len_le (B:=84) fun m hm=>by
          unfold newF at hm
          by_cases c:m∈newPl r (p.rule.news.take i)++(List.range j).map fun q=>4*i+q
          · rcases List.mem_append.mp c with c | c
            · have:=newPl_lt st.ok c
              omega
            · obtain ⟨q,hq,e⟩:=List.mem_map.mp c
              have:=List.mem_range.mp hq
              omega
          · rw [if_neg c] at hm;cases hm
        refine ⟨_,rfl,_,_,rfl,rfl,.inl ⟨by decide,by decide⟩,_,rfl,_,_,rfl,rfl,_,rfl,_,rfl,_,_,rfl,rfl,.inl ⟨by decide,by decide⟩,_,rfl,_,_,rfl,rfl,D,_,rfl,DPut.n (n:=4*i+j) (m:=4*n+j) (by omega) (by omega) hD5 (small1000 (by omega)),⟨_,rfl⟩,fun c o e hc=>by rw [upd_ne hc];exact fr5 c o e hc,_,upd_same,(dd.putA (4*i+j) (4*n+j)).congr fun e=>?_⟩
        rw [range_snoc,← List.append_assoc]
        unfold newF
        by_cases c:e=4*i+j
        · rw [if_pos c,if_pos (by simp [c])]
          refine congrArg some ?_
          unfold Nets.newPort
          rw [show e / 4=i by omega,hgd]
          omega
        · rw [if_neg c]
          by_cases c2:e∈newPl r (p.rule.news.take i)++(List.range j).map fun q=>4*i+q
          · rw [if_pos c2,if_pos (List.mem_append_left _ c2)]
          · rw [if_neg c2,if_neg (fun z=>by rcases List.mem_append.mp z with z | z;exact c2 z;exact c (by simpa using z))]
      · rintro σ H5 ⟨⟨w,rfl⟩,fr5,kvs,hD5,dd⟩
        refine ⟨⟨_,_,_,_,rfl⟩,fun c o e hc=>fr5 c o (fr4 c o e hc) (ne_of_none e hD),?_,kvs,hD5,?_⟩
        · exact h4.frame fun b hb o e=>fr5 b o e fun z=>by
            obtain ⟨o2,e2⟩:=h1.there b hb
            rw [z,hD] at e2
            cases e2
        · rw [take_snoc hsym,newPl_snoc,tl,show r.of sym+1=(1+(r.of sym:Int)).toNat by omega]
          exact dd
    · rintro σ H' ⟨⟨x0,y0,z0,w0,rfl⟩,fr,hR,kvs,hD',dd⟩
      have el:(nats p.rule.news).length=p.rule.news.length:=List.length_map ..
      rw [el] at hR
      rw [el,List.take_length] at dd
      exact ⟨_,rfl,k H' D kvs hD fr hD' dd hR⟩
end
theorem Post.free {C CR:Addr} {H H' : Hp} {A:RecAd} {r' : Nets.Rec} (P:Post C CR H A r' H' A) {q:Addr} (h:H' q=none):H q=none:=by
  cases e:H q with
  | none=>rfl
  | some o =>
    by_cases c:q∈A.fp
    · obtain ⟨o2,e2⟩:=P.rec_.there q c
      rw [h] at e2;cases e2
    · have:=P.keep q o e c
      rw [h] at this;cases this
theorem Post.of_same {C CR:Addr} {H H1 H' : Hp} {A:RecAd} {r' : Nets.Rec} (s:Same H H1) (P:Post C CR H1 A r' H' A):Post C CR H A r' H' A:=⟨P.rec_,P.p,fun b o e nb=>P.keep b o (s b o e) nb,fun b hb=>.inl hb⟩
theorem Post.trans {C CR:Addr} {H H1 H' : Hp} {A:RecAd} {r1 r' : Nets.Rec} (P1:Post C CR H A r1 H1 A) (P:Post C CR H1 A r' H' A):Post C CR H A r' H' A:=⟨P.rec_,P.p,fun b o e nb=>P.keep b o (P1.keep b o e nb) nb,fun b hb=>.inl hb⟩
theorem Post.then_same {C CR:Addr} {H H1 H' : Hp} {A:RecAd} {r1:Nets.Rec} (P1:Post C CR H A r1 H1 A) (s:Same H1 H'):Post C CR H A r1 H' A:=⟨P1.rec_.same s,P1.p,fun b o e nb=>s _ _ (P1.keep b o e nb),fun b hb=>.inl hb⟩
theorem brought_all {r:Nets.Rec} {a b:Nat} {p:Nets.Pair} (st:Stp r a b p):(brought r p p.rule.news.length).sym=(r.stepped p).sym:=by
  show ((List.range 64).map fun (n:Nat)=>if n∈(r.numbers p).take p.rule.news.length then p.rule.news[(r.numbers p).idxOf n]? else if n=p.x∨n=p.y then none else r.symAt n)=(List.range 64).map fun (a:Nat)=>if (r.numbers p).contains a=true then p.rule.news[(r.numbers p).idxOf a]? else if a=p.x∨a=p.y then none else r.symAt a
  refine List.map_congr_left fun n _=>?_
  have e:(r.numbers p).take p.rule.news.length=r.numbers p:=List.take_of_length_le (by rw [st.nsLen];exact Nat.le_refl _)
  rw [e]
  by_cases c:n∈r.numbers p
  · rw [if_pos c,if_pos (List.contains_iff_mem.mpr c)]
  · rw [if_neg c,if_neg (fun z=>c (List.contains_iff_mem.mp z))]
section
variable {P:Program} {w:World} {K:PySem.W.Frag} {mg:Str→Option Value} {base:Heap} {C CR:Addr}
def spRewrite (C CR:Addr):Sp:=fun vs H Q _=>∃ (A:RecAd) (r:Nets.Rec) (a b:Nat) (p:Nets.Pair),vs=[.ref A.p,nV a]∧RecAt C CR H A r∧r.pairAt a=some p∧Stp r a b p∧∀ H',Post C CR H A (r.stepped p) H' A→Q .non H'
theorem sc_rewrite_pair:FnScope ["record", "lower", "rule", "places", "onward", "ends", "place"] ["record", "lower"] (defScope s_rewrite_pair):=⟨rfl,rfl,rfl,by decide +kernel,rfl,by decide +kernel,by decide +kernel⟩
theorem ok_rewrite_pair {f:Addr} {fd:FuncData} (F:Fun K "rewrite_pair" "rewrite_pair" s_rewrite_pair f fd) (T:Txt K mg C CR) (D_rule_at:Df P w K mg base "rule_at" ["record", "lower"] 2 (spRuleAt C CR)) (D_old_places:Df P w K mg base "old_places" ["record", "rule", "lower"] 2 (spOldPlaces C CR)) (D_inner_joins:Df P w K mg base "inner_joins" ["record", "places"] 1 (spInner C CR)) (D_outer_ends:Df P w K mg base "outer_ends" ["record", "places"] 1 (spOuter C CR))
    (D_take_out_pair:Df P w K mg base "take_out_pair" ["record", "lower", "places"] 2 (spTakeOut C CR)) (D_bring_new_agents:Df P w K mg base "bring_new_agents" ["record", "rule"] 2 (spBring C CR)) (D_far_place:Df P w K mg base "far_place" ["mates", "onward", "place"] 1 spFar):FnOk P w K mg base CX0 3 f fd ["record", "lower"] (spRewrite C CR):=by
  refine F.ok sc_rewrite_pair (fun vs H Q E h=>?_) (fun cdv A0 outer s H vs Q E hr h=>?_)
  · obtain ⟨A,r,a,b,p,rfl,_⟩:=h
    rfl
  · obtain ⟨A,r,a,b,p,rfl,h1,hp,st,k⟩:=h
    have nd:=sc_rewrite_pair.nd
    have hu:=hu_of hr
    have ap:=h1.ap
    refine ⟨_,(pss_cons (ps_set (i:=2) nd rfl (Or.inl rfl) (pe_callD D_rule_at (hr.mono (by decide)) rfl (pa_cons (pv 0) (pa_cons (pv 1) pa_nil)))) (pss_cons (ps_set (i:=3) nd rfl (Or.inl rfl) (pe_callD D_old_places (hr.mono (by decide)) rfl (pa_cons (pv 0) (pa_cons (pv 2) (pa_cons (pv 1) pa_nil))))) (pss_cons (ps_set (i:=4) nd rfl (Or.inl rfl) (pe_callD D_inner_joins (hr.mono (by decide)) rfl (pa_cons (pv 0) (pa_cons (pv 3) pa_nil)))) (pss_cons (ps_set (i:=5) nd rfl (Or.inl rfl) (pe_callD D_outer_ends (hr.mono (by decide)) rfl (pa_cons (pv 0) (pa_cons (pv 3) pa_nil)))) (pss_cons (ps_expr (pe_callD D_take_out_pair (hr.mono (by decide)) rfl (pa_cons (pv 0) (pa_cons (pv 1) (pa_cons (pv 3) pa_nil))))) (pss_cons (ps_expr (pe_dupd (pv 5) (pe_callD D_bring_new_agents (hr.mono (by decide)) rfl (pa_cons (pv 0) (pa_cons (pv 2) pa_nil))) ⟨rfl,rfl,rfl,rfl⟩)) (pss_one (ps_lock (ps_for PassesOwn.never rfl (pi_keys (pv 5)) (pg_name (i:=6) nd rfl (Or.inl rfl)) (pss_one (ps_dput hu (pe_fld (pv 0) rfl) (pe_dget hu (pv 5) (pv 6) (fun _ _=>rfl)) (pe_dget hu (pv 5) (pe_callD D_far_place (hr.mono (by decide)) rfl (pa_cons (pe_fld (pv 2) rfl) (pa_cons (pv 4) (pa_cons (pv 6) pa_nil)))) (fun _ _=>rfl)) rfl))))))))))),?_⟩
    refine ⟨_,rfl,_,rfl,A,r,a,p,rfl,h1,st.ok,hp,fun i d H1 s1 e1 e2=>?_⟩
    refine ⟨_,rfl,_,rfl,_,rfl,A,r,a,b,p,i,d,rfl,h1.same s1,st,e1,e2,fun H2 D kvs hD s2 hD2 dd=>?_⟩
    have s12:=s1.trans s2
    have fpn:∀ {x:Addr},H x=none→x∉A.fp:=fun {x} hx hm=>by
      obtain ⟨o,e⟩:=h1.there x hm
      rw [hx] at e;cases e
    have nD:=fpn (s1.free hD)
    refine ⟨_,rfl,_,rfl,A,r,a,b,p,D,kvs,rfl,h1.same s12,st,hD2,dd,nD,fun H3 E kve hE s3 hE3 de=>?_⟩
    have s13:=s12.trans s3
    have nE:=fpn (s12.free hE)
    refine ⟨_,rfl,_,rfl,A,r,a,b,p,D,kvs,rfl,h1.same s13,st,s3 _ _ hD2,dd,nD,fun H4 G kvg hG s4 hG4 dg=>?_⟩
    have s14:=s13.trans s4
    have nG:=fpn (s13.free hG)
    refine ⟨_,rfl,_,rfl,_,rfl,A,r,a,b,p,D,kvs,rfl,h1.same s14,st,s4 _ _ (s3 _ _ hD2),dd,nD,fun H5 hR5 fr5=>?_⟩
    have nGa:G≠A.ag:=fun z=>nG (by rw [z];exact A.mem_ag)
    have nGj:G≠A.jo:=fun z=>nG (by rw [z];exact A.mem_jo)
    have nEa:E≠A.ag:=fun z=>nE (by rw [z];exact A.mem_ag)
    have nEj:E≠A.jo:=fun z=>nE (by rw [z];exact A.mem_jo)
    have nEG:E≠G:=ne_of_none hE3 hG
    have hG5:=fr5 _ _ hG4 nGa nGj
    have hE5:=fr5 _ _ (s4 _ _ hE3) nEa nEj
    refine ⟨_,rfl,G,rfl,.inl ⟨kvg,.inl hG5⟩,_,rfl,_,rfl,A,r,a,b,p,i,d,rfl,hR5,st,e1,e2,fun H6 N kvn hN fr6 hN6 dn hR6=>?_⟩
    have hG6:=fr6 _ _ hG5 nGa
    have hE6:=fr6 _ _ hE5 nEa
    have nGN:G≠N:=ne_of_none hG5 hN
    have lg:=dg.len_le (B:=84) fun n hn=>by
      unfold outF at hn
      by_cases c2:IsOld r p n
      · have:=c2.cases st
        omega
      · rw [if_neg c2] at hn;cases hn
    have ln:=dn.len_le (B:=84) fun n hn=>by
      unfold newF at hn
      by_cases c2:n∈newPl r p.rule.news
      · have:=new_lt st c2
        omega
      · rw [if_neg c2] at hn;cases hn
    refine ⟨N,kvg,kvn,rfl,hG6,.inl hN6,nGN,Nat.le_of_lt (small1000 (by omega)),?_⟩
    have dm:DictIs (mergeK kvg kvn) (endF r p (r.numbers p)):=(dg.v.merge dn.v).is fun e=>by
      unfold endF newF
      by_cases c:e∈newPl r p.rule.news
      · have:=new_lt st c
        rw [if_pos c,if_pos (by omega)];rfl
      · rw [if_neg c]
        by_cases c2:e<64
        · rw [if_pos c2]
          have q:outF r p e=none:=by
            unfold outF
            rw [if_neg (fun z=>by have:=IsOld.cases st z;omega)]
          rw [q];rfl
        · rw [if_neg c2];rfl
    generalize hM:mergeK kvg kvn=M at *
    have hRm:RecAt C CR (upd H6 G (.dK M)) A (brought r p p.rule.news.length):=hR6.frame fun x hx o e=>by
      rw [upd_ne (fun z=>nG (by rw [← z];exact hx))]
      exact e
    have hEm:(upd H6 G (.dK M)) E=some (.dK kve):=by rw [upd_ne nEG];exact hE6
    have keepm:∀ c o,H c=some o→c∉A.fp→(upd H6 G (.dK M)) c=some o:=fun c o e nc=>by
      rw [upd_ne (ne_of_none e (s13.free hG))]
      have na:c≠A.ag:=fun z=>nc (by rw [z];exact A.mem_ag)
      have nj:c≠A.jo:=fun z=>nc (by rw [z];exact A.mem_jo)
      exact fr6 _ _ (fr5 _ _ (s14 _ _ e) na nj) na
    have hGm:(upd H6 G (.dK M)) G=some (.dK M):=upd_same
    generalize upd H6 G (.dK M)=Hm at *
    refine ⟨G,.dK M,hGm,True.intro,fun od=>⟨_,rfl,G,od,rfl,.inl ⟨M,upd_same,?_⟩⟩⟩
    generalize hHl:upd Hm G (.frz od (.dK M))=Hl
    have hlG:Hl G=some (.frz od (.dK M)):=by rw [← hHl];exact upd_same
    have hlo:∀ c,c≠G→Hl c=Hm c:=fun c hc=>by rw [← hHl,upd_ne hc]
    have R:=hRm.rule i d p.rule e1 e2
    obtain ⟨kvm,hma,dma⟩:=R.ma
    have dmem:=List.mem_of_getElem? e1
    have fpq:∀ x∈d.fp,x≠G∧x≠A.jo:=fun x hx=>⟨fun z=>nG (by rw [← z];exact A.mem_rl dmem hx),(ap.rl d dmem x hx).2.2.2.2⟩
    obtain ⟨kvj0,hjo0,djo0⟩:=hRm.jo
    have okS:=stepped_ok st
    refine for_keys (fun j σ H'=>(∀ c o,Hl c=some o→c≠A.jo→H' c=some o)∧(∃ y,σ=[some (.ref A.p),some (nV a),some (.ref d.q),some (.ref D),some (.ref E),some (.ref G),y])∧∃ kvj,H' A.jo=some (.dK kvj)∧DictIs kvj fun q=>if q∈(M.map fun x=>(endF r p (r.numbers p) (keyN x)).getD 0).take j then (r.stepped p).at_ q else baseF r p q)
      ⟨fun c o e _=>e,⟨_,rfl⟩,kvj0,by rw [hlo _ nGj.symm];exact hjo0,djo0.congr fun q=>by rw [if_neg (by simp)];exact took_at st q⟩ (fun i σ H' _ ⟨e,_⟩=>e _ _ hlG nGj) ?_ ?_
    · rintro j ky v σ H' hi ⟨fr,⟨y,rfl⟩,kvj,hjo,djo⟩
      obtain ⟨e,rfl⟩:=dm.key ky (List.mem_map.mpr ⟨_,List.mem_of_getElem? hi,rfl⟩)
      have hsn:=(dm.mem e).mp (List.mem_map.mpr ⟨_,List.mem_of_getElem? hi,rfl⟩)
      obtain ⟨q,hq⟩:=Option.isSome_iff_exists.mp hsn
      obtain ⟨kk,wE,z,hk6,hw,ho,hz,hat⟩:=L1 st hq
      have hG':=fr _ _ hlG nGj
      have get:∀ n m:Nat,endF r p (r.numbers p) n=some m→DGet H' G (nV n) (some (nV m)):=fun n m e=>by
        have x:=DGet.frz (k:=Sum.inl (n:Int)) hG'
        rw [dm.val,e] at x
        exact x
      have hqs:(M.map fun x=>(endF r p (r.numbers p) (keyN x)).getD 0)[j]?=some q:=by
        rw [List.getElem?_map,hi,Option.map_some,keyN_inl,hq];rfl
      have fm:∀ c o,Hm c=some o→c≠G→c≠A.jo→H' c=some o:=fun c o e n1 n2=>fr c o (by rw [hlo c n1];exact e) n2
      have hobj:H' A.p=some (.ins C A.dx (recF A)):=fm _ _ hRm.obj (fun z=>nG (by rw [← z];exact A.mem_p)) ap.pj
      have hqo:H' d.q=some (.ins CR d.dq (ruleF d p.rule)):=fm _ _ R.obj (fpq d.q (by simp [RuleAd.fp])).1 (fpq d.q (by simp [RuleAd.fp])).2
      have hma' : H' d.ma=some (.dK kvm):=fm _ _ hma (fpq d.ma (by simp [RuleAd.fp])).1 (fpq d.ma (by simp [RuleAd.fp])).2
      have hE' : H' E=some (.dK kve):=fm _ _ hEm nEG nEj
      have hl:=djo.len_le (B:=272) fun n hn=>by
        by_cases c:n∈(M.map fun x=>(endF r p (r.numbers p) (keyN x)).getD 0).take j
        · rw [if_pos c] at hn
          exact okS.at_lt hn
        · rw [if_neg c] at hn
          unfold baseF at hn
          cases ho:Nets.outside p n with
          | false=>rw [ho] at hn;cases hn
          | true =>
            rw [ho,if_pos rfl] at hn
            exact st.ok.at_lt hn
      refine ⟨_,rfl,_,rfl,d.q,CR,d.dq,_,_,rfl,hqo,T.clR,T.nMates,ruleF_mates d p.rule,_,rfl,_,rfl,d.ma,E,kvm,kve,otherW p.rule.wires,onw r p,kk,e,wE,rfl,hma',dma,hE',de,hw,ho,G,nV z,rfl,get _ _ hz,
        _,rfl,A.p,C,A.dx,_,_,rfl,hobj,T.cl,T.nJoined,recF_joined A,_,rfl,_,rfl,G,nV q,rfl,get _ _ hq,A.jo,_,rfl,DPut.k (k:=Sum.inl (q:Int)) hjo (small1000 (by omega)),?_⟩
      refine ⟨fun c o e hc=>by rw [upd_ne hc];exact fr c o e hc,⟨_,rfl⟩,_,upd_same,(djo.putA q z).congr fun m=>?_⟩
      rw [take_snoc hqs]
      by_cases c:m=q
      · subst c
        rw [if_pos rfl,if_pos (by simp),hat]
      · rw [if_neg c]
        by_cases c2:m∈(M.map fun x=>(endF r p (r.numbers p) (keyN x)).getD 0).take j
        · rw [if_pos c2,if_pos (List.mem_append_left _ c2)]
        · rw [if_neg c2,if_neg (by simp only [List.mem_append,List.mem_singleton];exact fun z=>by rcases z with z | z;exact c2 z;exact c z)]
    · rintro σ H' ⟨fr,⟨y,rfl⟩,kvj,hjo,djo⟩
      refine ⟨fr _ _ hlG nGj,k _ ⟨?_,rfl,fun c o e nc=>?_,fun x hx=>.inl hx⟩⟩
      · have q:=hRm.setJo (H':=upd H' G (.dK M)) (li:=(r.stepped p).link) (kvs:=kvj) (fun c hc o e=>?_) (by rw [upd_ne nGj.symm];exact hjo) (djo.congr fun q=>?_)
        · rw [brought_all st] at q
          exact q
        · by_cases z:c=G
          · subst z
            rw [upd_same]
            rw [hGm] at e
            exact e
          · rw [upd_ne z]
            exact fr c o (by rw [hlo c z];exact e) hc
        · show _=(r.stepped p).at_ q
          have el:(M.map fun x=>(endF r p (r.numbers p) (keyN x)).getD 0).length=M.length:=List.length_map ..
          rw [← el,List.take_length]
          by_cases c:q∈M.map fun x=>(endF r p (r.numbers p) (keyN x)).getD 0
          · rw [if_pos c]
          · rw [if_neg c,L2_ st fun e he=>c ?_]
            have x:=(dm.mem e).mpr (by rw [he];rfl)
            obtain ⟨x,hx,ex⟩:=List.mem_map.mp x
            refine List.mem_map.mpr ⟨x,hx,?_⟩
            obtain ⟨x1,x2⟩:=x
            have ex:x1=.inl (e:Int):=ex
            subst ex
            rw [keyN_inl,he]
            rfl
      · have nG' : c≠G:=ne_of_none e (s13.free hG)
        rw [upd_ne nG']
        exact fr c o (by rw [hlo c nG'];exact keepm c o e nc) fun z=>nc (by rw [z];exact A.mem_jo)
def spTakeStep (C CR:Addr):Sp:=fun vs H Q _=>∃ (A:RecAd) (r:Nets.Rec) (n:Nat),vs=[.ref A.p,nV n]∧RecAt C CR H A r∧RecOk r∧RulesOk r∧Ends_ C CR H A r (.step 0 n) Q
theorem does_step (r:Nets.Rec) (n:Nat):Nets.does r (.step 0 n)=match r.pairAt n with
    | none=>(r,Nets.says (-4))
    | some P=>if r.whole=false then (r,Nets.says (-9)) else if (r.numbers P).length<P.rule.news.length then (r,Nets.says (-3)) else (r.stepped P,Nets.says 0):=rfl
theorem sc_take_step:FnScope ["record", "a"] ["record", "a"] (defScope s_take_step):=⟨rfl,rfl,rfl,by decide +kernel,rfl,by decide +kernel,by decide +kernel⟩
theorem ok_take_step {f:Addr} {fd:FuncData} (F:Fun K "take_step" "take_step" s_take_step f fd) (T:Txt K mg C CR) (D_is_pair:Df P w K mg base "is_pair" ["record", "agent"] 2 (spIsPair C CR)) (D_is_whole:Df P w K mg base "is_whole" ["record"] 1 (spIsWhole C CR)) (D_has_room:Df P w K mg base "has_room" ["record", "lower"] 3 (spHasRoom C CR)) (D_rewrite_pair:Df P w K mg base "rewrite_pair" ["record", "lower"] 3 (spRewrite C CR)):FnOk P w K mg base CX0 4 f fd ["record", "a"] (spTakeStep C CR):=by
  refine F.ok sc_take_step (fun vs H Q E h=>?_) (fun cdv A0 outer s H vs Q E hr h=>?_)
  · obtain ⟨A,r,n,rfl,_⟩:=h
    rfl
  · obtain ⟨A,r,n,rfl,h1,ok,ro,k⟩:=h
    have de:=does_step r n
    refine ⟨_,(pss_cons (ps_if (pt_not (pt_val (pe_callD D_is_pair (hr.mono (by decide)) rfl (pa_cons (pv 0) (pa_cons (pv 1) pa_nil))))) (pss_one (ps_ret (pe_lst (pa_cons (pe_glV rfl T.c_NOT_THERE) pa_nil)))) pss_nil) (pss_cons (ps_if (pt_not (pt_val (pe_callD D_is_whole (hr.mono (by decide)) rfl (pa_cons (pv 0) pa_nil)))) (pss_one (ps_ret (pe_lst (pa_cons (pe_glV rfl T.c_NOT_WHOLE) pa_nil)))) pss_nil) (pss_cons (ps_if (pt_not (pt_val (pe_callD D_has_room (hr.mono (by decide)) rfl (pa_cons (pv 0) (pa_cons (pv 1) pa_nil))))) (pss_one (ps_ret (pe_lst (pa_cons (pe_glV rfl T.c_NO_ROOM) pa_nil)))) pss_nil) (pss_cons (ps_expr (pe_callD D_rewrite_pair (hr.mono (by decide)) rfl (pa_cons (pv 0) (pa_cons (pv 1) pa_nil)))) (pss_one (ps_ret (pe_lst (pa_cons pe_int pa_nil)))))))),?_⟩
    refine ⟨_,rfl,_,rfl,A,r,n,rfl,h1,ok,fun H1 s1=>⟨_,rfl,?_⟩⟩
    cases hp:r.pairAt n with
    | none =>
      rw [hp] at de
      refine iteT ⟨(by show 1≤sizeLine;decide),fun q hq=>?_⟩
      exact ends_same (a:=Nets.says (-4)) h1 k de s1 hq
    | some p =>
      rw [hp] at de
      have de:Nets.does r (.step 0 n)=if r.whole=false then (r,Nets.says (-9)) else if (r.numbers p).length<p.rule.news.length then (r,Nets.says (-3)) else (r.stepped p,Nets.says 0):=de
      obtain ⟨b,po⟩:=pair_ok ok hp
      refine iteF ⟨_,rfl,A,r,rfl,h1.same s1,ok,fun H2 s2=>⟨_,rfl,?_⟩⟩
      have s12:=s1.trans s2
      cases hw:r.whole with
      | false =>
        rw [if_pos hw] at de
        refine iteT ⟨(by show 1≤sizeLine;decide),fun q hq=>?_⟩
        exact ends_same (a:=Nets.says (-9)) h1 k de s12 hq
      | true =>
        rw [if_neg (by rw [hw];simp)] at de
        refine iteF ⟨_,rfl,_,rfl,A,r,n,p,rfl,h1.same s12,ok,hp,fun H3 s3=>⟨_,rfl,?_⟩⟩
        have s13:=s12.trans s3
        by_cases hm:(r.numbers p).length<p.rule.news.length
        · rw [if_pos hm] at de
          rw [decide_eq_false (not_not_intro hm)]
          refine iteT ⟨(by show 1≤sizeLine;decide),fun q hq=>?_⟩
          exact ends_same (a:=Nets.says (-3)) h1 k de s13 hq
        · rw [if_neg hm] at de
          rw [decide_eq_true hm]
          refine iteF ⟨_,rfl,_,rfl,A,r,n,b,p,rfl,h1.same s13,hp,⟨ok,po,ro _ po.mem,hw,hm⟩,fun H4 P4=>?_⟩
          refine ⟨(by show 1≤sizeLine;decide),fun q hq=>?_⟩
          have P5:=P4.of_same s13
          exact ends_new (r':=r.stepped p) (a:=Nets.says 0) (A':=A) k de P5 hq (P5.free hq)
def spRunSteps (C CR:Addr):Sp:=fun vs H Q _=>∃ (A:RecAd) (r:Nets.Rec) (n:Nat),vs=[.ref A.p,nV n]∧RecAt C CR H A r∧RecOk r∧RulesOk r∧Ends_ C CR H A r (.run 0 n) Q
theorem does_run (r:Nets.Rec) (n:Nat):Nets.does r (.run 0 n)=if 200<n then (r,Nets.says (-1)) else if r.whole=false then (r,Nets.says (-9)) else ((Nets.Rec.run n r).2,Nets.tells [(Nets.Rec.run n r).1]):=rfl
theorem run_succ (n:Nat) (r:Nets.Rec):Nets.Rec.run (n+1) r=match r.pairs.head? with
    | none=>(0,r)
    | some a=>match r.pairAt a with
      | none=>(0,r)
      | some P=>if (r.numbers P).length<P.rule.news.length then (0,r) else ((Nets.Rec.run n (r.stepped P)).1+1,(Nets.Rec.run n (r.stepped P)).2):=rfl
theorem stepped_rules {r:Nets.Rec} (ro:RulesOk r) (p:Nets.Pair):RulesOk (r.stepped p):=fun R hR=>by
  have q:=ro R hR
  exact ⟨q.s,q.t,⟨q.made.perm,q.made.nd,q.made.n6,q.made.sym⟩⟩
theorem sc_run_steps:FnScope ["record", "n", "taken", "lowest"] ["record", "n"] (defScope s_run_steps):=⟨rfl,rfl,rfl,by decide +kernel,rfl,by decide +kernel,by decide +kernel⟩
theorem ok_run_steps {f:Addr} {fd:FuncData} (F:Fun K "run_steps" "run_steps" s_run_steps f fd) (T:Txt K mg C CR) (D_lowest_pair:Df P w K mg base "lowest_pair" ["record"] 3 (spLowestPair C CR)) (D_is_whole:Df P w K mg base "is_whole" ["record"] 1 (spIsWhole C CR)) (D_has_room:Df P w K mg base "has_room" ["record", "lower"] 3 (spHasRoom C CR)) (D_rewrite_pair:Df P w K mg base "rewrite_pair" ["record", "lower"] 3 (spRewrite C CR)):FnOk P w K mg base CX0 4 f fd ["record", "n"] (spRunSteps C CR):=by
  refine F.ok sc_run_steps (fun vs H Q E h=>?_) (fun cdv A0 outer s H vs Q E hr h=>?_)
  · obtain ⟨A,r,n,rfl,_⟩:=h
    rfl
  · obtain ⟨A,r,n,rfl,h1,ok,ro,k⟩:=h
    have nd:=sc_run_steps.nd
    have de:=does_run r n
    refine ⟨_,(pss_cons (ps_if (pt_cmpR op_gt (pv 1) (pe_glV rfl T.c_STEP_LIMIT) (nomark _)) (pss_one (ps_ret (pe_lst (pa_cons (pe_glV rfl T.c_TOO_HIGH) pa_nil)))) pss_nil) (pss_cons (ps_if (pt_not (pt_val (pe_callD D_is_whole (hr.mono (by decide)) rfl (pa_cons (pv 0) pa_nil)))) (pss_one (ps_ret (pe_lst (pa_cons (pe_glV rfl T.c_NOT_WHOLE) pa_nil)))) pss_nil) (pss_cons (ps_set (i:=2) nd rfl (Or.inl rfl) pe_int) (pss_cons (ps_set (i:=3) nd rfl (Or.inl rfl) (pe_callD D_lowest_pair (hr.mono (by decide)) rfl (pa_cons (pv 0) pa_nil))) (pss_cons (ps_while PassesOwn.never (PW.pt (pw_and (pt_cmpR op_lt (pv 2) (pv 1) (nomark _)) (pw_and (pt_cmpR op_ne (pv 3) (pe_glV rfl T.c_NO_PAIR) (nomark _)) (pw_and1 (pt_val (pe_callD D_has_room (hr.mono (by decide)) rfl (pa_cons (pv 0) (pa_cons (pv 3) pa_nil)))))))) (pss_cons (ps_expr (pe_callD D_rewrite_pair (hr.mono (by decide)) rfl (pa_cons (pv 0) (pa_cons (pv 3) pa_nil)))) (pss_cons (ps_set (i:=2) nd rfl (Or.inl rfl) (pe_op op_add (pv 2) pe_int)) (pss_one (ps_set (i:=3) nd rfl (Or.inl rfl) (pe_callD D_lowest_pair (hr.mono (by decide)) rfl (pa_cons (pv 0) pa_nil))))))) (pss_one (ps_ret (pe_lst (pa_cons pe_int (pa_cons (pv 2) pa_nil)))))))))),?_⟩
    refine ⟨_,rfl,_,_,rfl,rfl,_,rfl,ite2 (fun c=>?_) (fun c=>?_)⟩
    · have c:(200:Int)<n:=of_decide_eq_true c
      rw [if_pos (by omega)] at de
      refine ⟨(by show 1≤sizeLine;decide),fun q hq=>?_⟩
      exact ends_same (a:=Nets.says (-1)) h1 k de (Same.refl _) hq
    · have c:¬ (200:Int)<n:=fun z=>c (decide_eq_true z)
      rw [if_neg (by omega)] at de
      refine ⟨_,rfl,A,r,rfl,h1,ok,fun H1 s1=>⟨_,rfl,?_⟩⟩
      cases hw:r.whole with
      | false =>
        rw [if_pos hw] at de
        refine iteT ⟨(by show 1≤sizeLine;decide),fun q hq=>?_⟩
        exact ends_same (a:=Nets.says (-9)) h1 k de s1 hq
      | true =>
        rw [if_neg (by rw [hw];simp)] at de
        refine iteF ⟨_,rfl,A,r,rfl,h1.same s1,ok,fun H2 s2=>?_⟩
        have s12:=s1.trans s2
        refine ⟨fun m σ H'=>∃ (r' : Nets.Rec) (t:Nat),m+t=n∧Post C CR H A r' H' A∧RecOk r'∧RulesOk r'∧r'.whole=true∧Nets.Rec.run n r=(t+(Nets.Rec.run m r').1,(Nets.Rec.run m r').2)∧σ=[some (.ref A.p),some (nV n),some (nV t),some (lowV r')],
          ⟨n,r,0,by omega,⟨h1.same s12,rfl,fun b o e _=>s12 b o e,fun b hb=>.inl hb⟩,ok,ro,hw,by rw [Nat.zero_add],rfl⟩,?_⟩
        rintro m σ H3 ⟨r',t,hmt,P3,ok3,ro3,hw3,hrun,rfl⟩
        have out:(Nets.Rec.run m r')=(0,r')→∀ H4,Same H3 H4→tRet (tLst (tCons (tC (.int 0)) (tCons (tVar 2) tNil))) { nx:=fun _ H'=>Q .non H',rt:=Q } [some (.ref A.p),some (nV n),some (nV t),some (lowV r')] H4:=fun e H4 s4=>by
          refine ⟨_,rfl,(by show 2≤sizeLine;decide),fun q hq=>?_⟩
          have P4:=P3.then_same s4
          rw [e] at hrun
          refine ends_new (r':=r') (a:=Nets.tells [t]) (A':=A) k ?_ P4 hq (P4.free hq)
          rw [de,hrun];rfl
        refine ⟨_,rfl,_,rfl,_,_,rfl,rfl,_,rfl,ite2 (fun c1=>?_) (fun c1=>?_)⟩
        · have c1:(t:Int)<n:=of_decide_eq_true c1
          cases m with
          | zero=>omega
          | succ m =>
          have rs:=run_succ m r'
          cases hh:r'.pairs.head? with
          | none =>
            rw [hh] at rs
            have el:lowV r'=.int (-1):=by unfold lowV;rw [hh]
            refine ⟨_,rfl,(by show scal (lowV r') _=true;rw [el];rfl),_,rfl,?_⟩
            have e2:(!decide (lowV r'=V.int (-1)))=false:=by rw [el];simp
            rw [e2]
            exact iteF (iteF (out rs H3 (Same.refl _)))
          | some a =>
            rw [hh] at rs
            have el:lowV r'=nV a:=by unfold lowV;rw [hh]
            have hpa:(r'.pairAt a).isSome=true:=by
              have hm:a∈r'.pairs:=List.mem_of_mem_head? (by rw [hh];rfl)
              exact (List.mem_filter.mp hm).2
            obtain ⟨p,hp⟩:=Option.isSome_iff_exists.mp hpa
            have rs:Nets.Rec.run (m+1) r'=match r'.pairAt a with
              | none=>(0,r')
              | some P=>if (r'.numbers P).length<P.rule.news.length then (0,r') else ((Nets.Rec.run m (r'.stepped P)).1+1,(Nets.Rec.run m (r'.stepped P)).2):=rs
            rw [hp] at rs
            have rs:Nets.Rec.run (m+1) r'=if (r'.numbers p).length<p.rule.news.length then (0,r') else ((Nets.Rec.run m (r'.stepped p)).1+1,(Nets.Rec.run m (r'.stepped p)).2):=rs
            obtain ⟨b,po⟩:=pair_ok ok3 hp
            refine ⟨_,rfl,(by show scal (lowV r') _=true;rw [el];rfl),_,rfl,?_⟩
            have e2:(!decide (lowV r'=V.int (-1)))=true:=by
              rw [el]
              have:¬ nV a=V.int (-1):=fun z=>by injection z with z;omega
              simp [this]
            rw [e2]
            refine iteT ⟨_,rfl,_,rfl,A,r',a,p,(by rw [el];rfl),P3.rec_,ok3,hp,fun H4 s4=>⟨_,rfl,?_⟩⟩
            have P4:=P3.then_same s4
            by_cases hm:(r'.numbers p).length<p.rule.news.length
            · rw [if_pos hm] at rs
              rw [decide_eq_false (not_not_intro hm)]
              exact iteF (out rs H4 s4)
            · rw [if_neg hm] at rs
              rw [decide_eq_true hm]
              have st:Stp r' a b p:=⟨ok3,po,ro3 _ po.mem,hw3,hm⟩
              refine iteT ⟨fun σ' H'=>∃ (r' : Nets.Rec) (t:Nat),m+t=n∧Post C CR H A r' H' A∧RecOk r'∧RulesOk r'∧r'.whole=true∧Nets.Rec.run n r=(t+(Nets.Rec.run m r').1,(Nets.Rec.run m r').2)∧σ'=[some (.ref A.p),some (nV n),some (nV t),some (lowV r')],fun σ' H' q=>⟨m,by omega,q⟩,?_⟩
              refine ⟨_,rfl,_,rfl,A,r',a,b,p,(by rw [el];rfl),P4.rec_,hp,st,fun H5 P5=>?_⟩
              have P6:=P4.trans P5
              refine ⟨_,rfl,_,_,rfl,rfl,_,rfl,A,r'.stepped p,rfl,P6.rec_,stepped_ok st,fun H7 s7=>?_⟩
              refine ⟨r'.stepped p,t+1,by omega,P6.then_same s7,stepped_ok st,stepped_rules ro3 p,stepped_whole st,?_,rfl⟩
              rw [hrun,rs]
              refine Prod.ext ?_ rfl
              show t+(_+1)=t+1+_
              omega
        · have c1:¬ (t:Int)<n:=fun z=>c1 (decide_eq_true z)
          have em:m=0:=by omega
          subst em
          exact iteF (out rfl H3 (Same.refl _))
end
def tr (φ:Nat→Nat) (x:Nat):Nat:=if 256≤x then x else 4*φ (x / 4)+x%4
theorem tr_name {φ:Nat→Nat} {x:Nat} (h:256≤x):tr φ x=x:=if_pos h
theorem tr_port {φ:Nat→Nat} {x:Nat} (h:x<256):tr φ x=4*φ (x / 4)+x%4:=if_neg (by omega)
structure Iso (r q:Nets.Rec) (φ ψ:Nat→Nat):Prop where
  fwd:∀ a s,r.symAt a=some s→q.symAt (φ a)=some s∧ψ (φ a)=a
  bwd:∀ b s,q.symAt b=some s→r.symAt (ψ b)=some s∧φ (ψ b)=b
  lnk:∀ a s j,r.symAt a=some s→j<4→q.at_ (4*φ a+j)=(r.at_ (4*a+j)).map (tr φ)
  nam:∀ n,n<16→q.at_ (256+n)=(r.at_ (256+n)).map (tr φ)
def okL (f:Nat→Option Nat) (u v:Option Nat):Prop:=(u=none∧v=none)∨(∃ x,256≤x∧u=some x∧v=some x)∨∃ x y,x<256∧y<256∧u=some x∧v=some y∧x%4=y%4∧f (x / 4)=some (y / 4)
structure Cl (r q:Nets.Rec) (f g:Nat→Option Nat):Prop where
  inv:∀ a b,f a=some b↔g b=some a
  sym:∀ a b,f a=some b→∃ s,r.symAt a=some s∧q.symAt b=some s
  lnk:∀ a b j,f a=some b→j<4→okL f (r.at_ (4*a+j)) (q.at_ (4*b+j))
section
variable {r q:Nets.Rec} {f g:Nat→Option Nat} {φ ψ:Nat→Nat}
theorem RecOk.to (ok:RecOk r) {x y:Nat} (h:r.at_ x=some y) (hy:y<256):∃ s,r.symAt (y / 4)=some s:=by
  obtain ⟨t,ht,_⟩:=RecOk.port_sym (ok.linkOk _ _ h).2.1 hy
  exact ⟨t,ht⟩
noncomputable def mF (r q:Nets.Rec) (φ ψ:Nat→Nat) (e:Nat):Option Nat:=if e%2=0 then (r.symAt (e / 2)).map fun _=>2*φ (e / 2)+1 else (q.symAt (e / 2)).map fun _=>2*ψ (e / 2)
def oF (f g:Nat→Option Nat) (e:Nat):Option Nat:=if e%2=0 then (f (e / 2)).map fun b=>2*b+1 else (g (e / 2)).map fun a=>2*a
theorem mF_l (a:Nat):mF r q φ ψ (2*a)=(r.symAt a).map fun _=>2*φ a+1:=by
  unfold mF
  rw [if_pos (by omega),show 2*a / 2=a by omega]
theorem mF_r (b:Nat):mF r q φ ψ (2*b+1)=(q.symAt b).map fun _=>2*ψ b:=by
  unfold mF
  rw [if_neg (by omega),show (2*b+1) / 2=b by omega]
theorem oF_l (a:Nat):oF f g (2*a)=(f a).map fun b=>2*b+1:=by
  unfold oF
  rw [if_pos (by omega),show 2*a / 2=a by omega]
theorem oF_r (b:Nat):oF f g (2*b+1)=(g b).map fun a=>2*a:=by
  unfold oF
  rw [if_neg (by omega),show (2*b+1) / 2=b by omega]
theorem side (e:Nat):(∃ a,e=2*a)∨∃ b,e=2*b+1:=by
  by_cases h:e%2=0
  · exact .inl ⟨e / 2,by omega⟩
  · exact .inr ⟨e / 2,by omega⟩
theorem mF_l_some {a e:Nat} (h:mF r q φ ψ (2*a)=some e):e=2*φ a+1∧∃ s,r.symAt a=some s:=by
  rw [mF_l] at h
  obtain ⟨s,hs,e⟩:=Option.map_eq_some_iff.mp h
  exact ⟨e.symm,s,hs⟩
theorem mF_r_some {b e:Nat} (h:mF r q φ ψ (2*b+1)=some e):e=2*ψ b∧∃ s,q.symAt b=some s:=by
  rw [mF_r] at h
  obtain ⟨s,hs,e⟩:=Option.map_eq_some_iff.mp h
  exact ⟨e.symm,s,hs⟩
theorem oF_l_some {a e:Nat} (h:oF f g (2*a)=some e):∃ b,e=2*b+1∧f a=some b:=by
  rw [oF_l] at h
  obtain ⟨s,hs,e⟩:=Option.map_eq_some_iff.mp h
  exact ⟨s,e.symm,hs⟩
theorem oF_r_some {b e:Nat} (h:oF f g (2*b+1)=some e):∃ a,e=2*a∧g b=some a:=by
  rw [oF_r] at h
  obtain ⟨s,hs,e⟩:=Option.map_eq_some_iff.mp h
  exact ⟨s,e.symm,hs⟩
theorem mInv_ (iso:Iso r q φ ψ):∀ x y,mF r q φ ψ x=some y→mF r q φ ψ y=some x:=fun x y h=>by
  rcases side x with ⟨a,rfl⟩ | ⟨b,rfl⟩
  · obtain ⟨rfl,s,hs⟩:=mF_l_some h
    obtain ⟨h1,h2⟩:=iso.fwd a s hs
    rw [mF_r,h1,h2];rfl
  · obtain ⟨rfl,s,hs⟩:=mF_r_some h
    obtain ⟨h1,h2⟩:=iso.bwd b s hs
    rw [mF_l,h1,h2];rfl
theorem oInv_ (cl:Cl r q f g):∀ x y,oF f g x=some y→oF f g y=some x:=fun x y h=>by
  rcases side x with ⟨a,rfl⟩ | ⟨b,rfl⟩
  · obtain ⟨b,rfl,hs⟩:=oF_l_some h
    rw [oF_r,(cl.inv a b).mp hs];rfl
  · obtain ⟨a,rfl,hs⟩:=oF_r_some h
    rw [oF_l,(cl.inv a b).mpr hs];rfl
theorem walk_side:∀ {k a w:Nat},Wk (mF r q φ ψ) (oF f g) k (2*a) w→∃ y,w=2*y+1
  | 0,a,w,h=>⟨_,(mF_l_some h).1⟩
  | k+1,a,w,⟨y,e',h1,h2,h3⟩=>by
    obtain ⟨rfl,_⟩:=mF_l_some h1
    obtain ⟨a',rfl,_⟩:=oF_r_some h2
    exact walk_side h3
theorem walk_sym (iso:Iso r q φ ψ) (cl:Cl r q f g):∀ {k a y s:Nat},Wk (mF r q φ ψ) (oF f g) k (2*a) (2*y+1)→r.symAt a=some s→q.symAt y=some s
  | 0,a,y,s,h,hs=>by
    obtain ⟨e,_⟩:=mF_l_some h
    have e:y=φ a:=by omega
    rw [e]
    exact (iso.fwd a s hs).1
  | k+1,a,y,s,⟨u,e',h1,h2,h3⟩,hs=>by
    obtain ⟨rfl,_⟩:=mF_l_some h1
    obtain ⟨a',rfl,hg⟩:=oF_r_some h2
    obtain ⟨t,t1,t2⟩:=cl.sym a' _ ((cl.inv _ _).mpr hg)
    rw [(iso.fwd a s hs).1] at t2
    cases t2
    exact walk_sym iso cl h3 t1
theorem walk_link (okr:RecOk r) (okq:RecOk q) (iso:Iso r q φ ψ) (cl:Cl r q f g):∀ {k a y s j:Nat},Wk (mF r q φ ψ) (oF f g) k (2*a) (2*y+1)→r.symAt a=some s→j<4 →
    (r.at_ (4*a+j)=none→q.at_ (4*y+j)=none)∧(∀ n,256≤n→r.at_ (4*a+j)=some n→q.at_ (4*y+j)=some n) ∧
    (∀ x,x<256→r.at_ (4*a+j)=some x→∃ y',Wk (mF r q φ ψ) (oF f g) k (2*(x / 4)) (2*y'+1)∧q.at_ (4*y+j)=some (4*y'+x%4))
  | 0,a,y,s,j,h,hs,hj=>by
    obtain ⟨e,_⟩:=mF_l_some h
    have e:y=φ a:=by omega
    have l:=iso.lnk a s j hs hj
    rw [e]
    refine ⟨fun z=>by rw [l,z];rfl,fun n hn z=>by rw [l,z,Option.map_some,tr_name hn],fun x hx z=>⟨φ (x / 4),?_,by rw [l,z,Option.map_some,tr_port hx]⟩⟩
    obtain ⟨t,ht⟩:=okr.to z hx
    show mF r q φ ψ (2*(x / 4))=_
    rw [mF_l,ht];rfl
  | k+1,a,y,s,j,⟨u,e',h1,h2,h3⟩,hs,hj=>by
    obtain ⟨rfl,_⟩:=mF_l_some h1
    obtain ⟨a',rfl,hg⟩:=oF_r_some h2
    have hf:=(cl.inv _ _).mpr hg
    obtain ⟨t,t1,t2⟩:=cl.sym a' _ hf
    have l:=iso.lnk a s j hs hj
    have o:=cl.lnk a' _ j hf hj
    obtain ⟨i1,i2,i3⟩:=walk_link okr okq iso cl (j:=j) h3 t1 hj
    refine ⟨fun z=>?_,fun n hn z=>?_,fun x hx z=>?_⟩
    · rw [z] at l
      rw [l] at o
      rcases o with o | ⟨_,_,_,o⟩ | ⟨_,_,_,_,_,o,_⟩
      · exact i1 o.1
      · cases o
      · cases o
    · rw [z,Option.map_some,tr_name hn] at l
      rw [l] at o
      rcases o with o | ⟨m,o1,o2,o3⟩ | ⟨m,m',_,o1,_,o3,_⟩
      · cases o.2
      · cases o3
        exact i2 _ hn o2
      · cases o3
        omega
    · rw [z,Option.map_some,tr_port hx] at l
      rw [l] at o
      obtain ⟨t',ht'⟩:=okr.to z hx
      have q64:(4*φ (x / 4)+x%4) / 4=φ (x / 4):=by omega
      rcases o with o | ⟨m,o1,o2,o3⟩ | ⟨m,m',o1,o2,o3,o4,o5,o6⟩
      · cases o.2
      ·
        cases o3
        have:=okq.sym_lt (a:=φ (x / 4)) (by rw [(iso.fwd _ _ ht').1];rfl)
        omega
      · cases o4
        rw [q64] at o6
        obtain ⟨y',w1,w2⟩:=i3 m o1 o3
        refine ⟨y',⟨2*φ (x / 4)+1,2*(m / 4),?_,?_,w1⟩,?_⟩
        · rw [mF_l,ht'];rfl
        · rw [oF_r,(cl.inv _ _).mp o6];rfl
        · rw [w2,o5]
          exact congrArg some (by omega)
theorem ext_iso (okr:RecOk r) (okq:RecOk q) (iso:Iso r q φ ψ) (cl:Cl r q f g):∃ φ' ψ',Iso r q φ' ψ'∧∀ a b,f a=some b→φ' a=b:=by
  have hm:=mInv_ iso
  have ho:=oInv_ cl
  have lt2:∀ x y,oF f g x=some y→x∈List.range 128:=fun x y h=>by
    refine List.mem_range.mpr ?_
    rcases side x with ⟨a,rfl⟩ | ⟨b,rfl⟩
    · obtain ⟨b,_,hf⟩:=oF_l_some h
      obtain ⟨s,s1,s2⟩:=cl.sym a b hf
      have:=okr.sym_lt (a:=a) (by rw [s1];rfl)
      omega
    · obtain ⟨a,_,hf⟩:=oF_r_some h
      obtain ⟨s,s1,s2⟩:=cl.sym a b ((cl.inv _ _).mpr hf)
      have:=okq.sym_lt (a:=b) (by rw [s2];rfl)
      omega
  have tot:∀ x y,oF f g x=some y→(mF r q φ ψ y).isSome=true:=fun x y h=>by
    rcases side x with ⟨a,rfl⟩ | ⟨b,rfl⟩
    · obtain ⟨b,rfl,hf⟩:=oF_l_some h
      obtain ⟨s,s1,s2⟩:=cl.sym a b hf
      rw [mF_r,s2];rfl
    · obtain ⟨a,rfl,hf⟩:=oF_r_some h
      obtain ⟨s,s1,s2⟩:=cl.sym a b ((cl.inv _ _).mpr hf)
      rw [mF_l,s1];rfl
  let Rel:Nat→Nat→Prop:=fun x y=>f x=some y∨(f x=none∧g y=none∧∃ k,Wk (mF r q φ ψ) (oF f g) k (2*x) (2*y+1))
  have fun1:∀ {x y y' : Nat},Rel x y→Rel x y'→y=y':=fun {x y y'} h h'=>by
    rcases h with h | ⟨h1,h2,k,h3⟩
    · rcases h' with h' | ⟨h1',_⟩
      · rw [h] at h';exact Option.some.inj h'
      · rw [h] at h1';cases h1'
    · rcases h' with h' | ⟨h1',h2',k',h3'⟩
      · rw [h'] at h1;cases h1
      · have z:=Wk.det h3 h3' (by rw [oF_r,h2];rfl) (by rw [oF_r,h2'];rfl)
        omega
  have fun2:∀ {x x' y:Nat},Rel x y→Rel x' y→x=x':=fun {x x' y} h h'=>by
    rcases h with h | ⟨h1,h2,k,h3⟩
    · rcases h' with h' | ⟨h1',h2',_⟩
      · have z:=((cl.inv _ _).mp h).symm.trans ((cl.inv _ _).mp h')
        exact Option.some.inj z
      · rw [(cl.inv _ _).mp h] at h2';cases h2'
    · rcases h' with h' | ⟨h1',h2',k',h3'⟩
      · rw [(cl.inv _ _).mp h'] at h2;cases h2
      · have z:=Wk.det (Wk.rev hm ho h3) (Wk.rev hm ho h3') (by rw [oF_l,h1];rfl) (by rw [oF_l,h1'];rfl)
        omega
  have tot1:∀ x s,r.symAt x=some s→∃ y,Rel x y∧q.symAt y=some s:=fun x s hs=>by
    cases hf:f x with
    | some y =>
      obtain ⟨t,t1,t2⟩:=cl.sym x y hf
      rw [hs] at t1
      cases t1
      exact ⟨y,.inl hf,t2⟩
    | none =>
      obtain ⟨k,w,_,hw,hn⟩:=Wk.ends (e:=2*x) hm ho (List.range 128) lt2 tot (by rw [oF_l,hf];rfl) (by rw [mF_l,hs];rfl)
      obtain ⟨y,rfl⟩:=walk_side hw
      have hg:g y=none:=by
        rw [oF_r] at hn
        cases e:g y with
        | none=>rfl
        | some z=>rw [e] at hn;cases hn
      exact ⟨y,.inr ⟨hf,hg,k,hw⟩,walk_sym iso cl hw hs⟩
  have tot2:∀ y s,q.symAt y=some s→∃ x,Rel x y∧r.symAt x=some s:=fun y s hs=>by
    cases hg:g y with
    | some x =>
      have hf:=(cl.inv _ _).mpr hg
      obtain ⟨t,t1,t2⟩:=cl.sym x y hf
      rw [hs] at t2
      cases t2
      exact ⟨x,.inl hf,t1⟩
    | none =>
      obtain ⟨k,w,_,hw,hn⟩:=Wk.ends (e:=2*y+1) hm ho (List.range 128) lt2 tot (by rw [oF_r,hg];rfl) (by rw [mF_r,hs];rfl)
      have hw':=Wk.rev hm ho hw
      rcases side w with ⟨x,rfl⟩ | ⟨b,rfl⟩
      · have hf:f x=none:=by
          rw [oF_l] at hn
          cases e:f x with
          | none=>rfl
          | some z=>rw [e] at hn;cases hn
        have hx:∃ t,r.symAt x=some t:=by
          cases k with
          | zero=>exact (mF_l_some hw').2
          | succ k =>
            obtain ⟨u,e',z1,_⟩:=hw'
            exact (mF_l_some z1).2
        obtain ⟨t,ht⟩:=hx
        have q2:=walk_sym iso cl hw' ht
        rw [hs] at q2
        cases q2
        exact ⟨x,.inr ⟨hf,hg,k,hw'⟩,ht⟩
      ·
        exfalso
        have odd:∀ {k a w:Nat},Wk (mF r q φ ψ) (oF f g) k (2*a+1) w→∃ y,w=2*y:=by
          intro k
          induction k with
          | zero=>exact fun {a w} h=>⟨_,(mF_r_some h).1⟩
          | succ k ih =>
            rintro a w ⟨u,e',z1,z2,z3⟩
            obtain ⟨rfl,_⟩:=mF_r_some z1
            obtain ⟨b',rfl,_⟩:=oF_l_some z2
            exact ih z3
        obtain ⟨z,hz⟩:=odd hw
        omega
  have link:∀ {x y s j:Nat},Rel x y→r.symAt x=some s→j<4→(r.at_ (4*x+j)=none∧q.at_ (4*y+j)=none)∨(∃ n,256≤n∧r.at_ (4*x+j)=some n∧q.at_ (4*y+j)=some n) ∨
      ∃ z y',z<256∧r.at_ (4*x+j)=some z∧q.at_ (4*y+j)=some (4*y'+z%4)∧Rel (z / 4) y':=fun {x y s j} h hs hj=>by
    rcases h with h | ⟨h1,h2,k,h3⟩
    · rcases cl.lnk x y j h hj with o | ⟨n,o1,o2,o3⟩ | ⟨z,z',o1,o2,o3,o4,o5,o6⟩
      · exact .inl o
      · exact .inr (.inl ⟨n,o1,o2,o3⟩)
      · refine .inr (.inr ⟨z,z' / 4,o1,o3,by rw [o4];exact congrArg some (by omega),.inl o6⟩)
    · obtain ⟨i1,i2,i3⟩:=walk_link okr okq iso cl (j:=j) h3 hs hj
      cases e:r.at_ (4*x+j) with
      | none=>exact .inl ⟨rfl,i1 e⟩
      | some z =>
        by_cases c:256≤z
        · exact .inr (.inl ⟨z,c,rfl,i2 z c e⟩)
        · have c:z<256:=by omega
          obtain ⟨y',w1,w2⟩:=i3 z c e
          refine .inr (.inr ⟨z,y',c,rfl,w2,.inr ⟨?_,?_,k,w1⟩⟩)
          · cases ef:f (z / 4) with
            | none=>rfl
            | some d =>
              have l3:=(okr.linkOk _ _ e).2.2.1
              rw [show z=4*(z / 4)+z%4 by omega] at l3
              have o:=cl.lnk (z / 4) d (z%4) ef (by omega)
              rw [l3] at o
              have x64:=okr.sym_lt (a:=x) (by rw [hs];rfl)
              rcases o with o | ⟨n,o1,o2,o3⟩ | ⟨m,m',o1,o2,o3,o4,o5,o6⟩
              · cases o.1
              · cases o2
                omega
              · cases o3
                rw [show (4*x+j) / 4=x by omega,h1] at o6
                cases o6
          · cases eg:g y' with
            | none=>rfl
            | some d =>
              have hf:=(cl.inv _ _).mpr eg
              have l3:=(okq.linkOk _ _ w2).2.2.1
              have o:=cl.lnk d y' (z%4) hf (by omega)
              rw [l3] at o
              obtain ⟨s2,hs2⟩ : ∃ s2,q.symAt y=some s2:=⟨s,walk_sym iso cl h3 hs⟩
              have y64:=okq.sym_lt (a:=y) (by rw [hs2];rfl)
              rcases o with o | ⟨n,o1,o2,o3⟩ | ⟨m,m',o1,o2,o3,o4,o5,o6⟩
              · cases o.2
              · cases o3
                omega
              · cases o4
                rw [show (4*y+j) / 4=y by omega] at o6
                rw [(cl.inv _ _).mp o6] at h2
                cases h2
  have cho:∀ x,∃ y,(∃ s,r.symAt x=some s)→Rel x y:=fun x=>by
    cases e:r.symAt x with
    | none=>exact ⟨0,fun ⟨s,z⟩=>by cases z⟩
    | some s =>
      obtain ⟨y,h,_⟩:=tot1 x s e
      exact ⟨y,fun _=>h⟩
  have cho2:∀ y,∃ x,(∃ s,q.symAt y=some s)→Rel x y:=fun y=>by
    cases e:q.symAt y with
    | none=>exact ⟨0,fun ⟨s,z⟩=>by cases z⟩
    | some s =>
      obtain ⟨x,h,_⟩:=tot2 y s e
      exact ⟨x,fun _=>h⟩
  obtain ⟨Φ,c1⟩ : ∃ Φ:Nat→Nat,∀ x,(∃ s,r.symAt x=some s)→Rel x (Φ x):=⟨fun x=>Classical.choose (cho x),fun x=>Classical.choose_spec (cho x)⟩
  obtain ⟨Ψ,c2⟩ : ∃ Ψ:Nat→Nat,∀ y,(∃ s,q.symAt y=some s)→Rel (Ψ y) y:=⟨fun y=>Classical.choose (cho2 y),fun y=>Classical.choose_spec (cho2 y)⟩
  refine ⟨Φ,Ψ,?_,?_⟩
  · have key:∀ x s j,r.symAt x=some s→j<4→q.at_ (4*Φ x+j)=(r.at_ (4*x+j)).map (tr Φ):=fun x s j hs hj=>by
      rcases link (c1 x ⟨s,hs⟩) hs hj with o | ⟨n,o1,o2,o3⟩ | ⟨z,y',o1,o2,o3,o4⟩
      · rw [o.1,o.2];rfl
      · rw [o2,o3,Option.map_some,tr_name o1]
      · obtain ⟨t,ht⟩:=okr.to o2 o1
        have e:=fun1 o4 (c1 (z / 4) ⟨t,ht⟩)
        rw [o2,o3,Option.map_some,tr_port o1,e]
    refine ⟨fun a s hs=>?_,fun b s hs=>?_,fun a s j hs hj=>key a s j hs hj,fun n hn=>?_⟩
    · obtain ⟨y,h,hy⟩:=tot1 a s hs
      have e:=fun1 h (c1 a ⟨s,hs⟩)
      refine ⟨by rw [← e];exact hy,?_⟩
      have hy2:q.symAt (Φ a)=some s:=by rw [← e];exact hy
      exact fun2 (c2 _ ⟨s,hy2⟩) (c1 a ⟨s,hs⟩)
    · obtain ⟨x,h,hx⟩:=tot2 b s hs
      have e:=fun2 h (c2 b ⟨s,hs⟩)
      refine ⟨by rw [← e];exact hx,?_⟩
      have hx2:r.symAt (Ψ b)=some s:=by rw [← e];exact hx
      exact fun1 (c1 _ ⟨s,hx2⟩) (c2 b ⟨s,hs⟩)
    · have hN:=iso.nam n hn
      cases e:r.at_ (256+n) with
      | none=>rw [e] at hN;exact hN
      | some z =>
        by_cases c:256≤z
        · rw [e,Option.map_some,tr_name c] at hN
          rw [hN,Option.map_some,tr_name c]
        · have c:z<256:=by omega
          obtain ⟨t,ht⟩:=okr.to e c
          have l3:=(okr.linkOk _ _ e).2.2.1
          have k:=key (z / 4) t (z%4) ht (by omega)
          rw [show 4*(z / 4)+z%4=z by omega,l3,Option.map_some,tr_name (by omega)] at k
          have l4:=(okq.linkOk _ _ k).2.2.1
          rw [l4,Option.map_some,tr_port c]
  · intro a b hf
    obtain ⟨s,s1,_⟩:=cl.sym a b hf
    exact fun1 (c1 a ⟨s,s1⟩) (.inl hf)
end
def presL (r:Nets.Rec):List Nat:=(List.range 64).filter fun n=>(r.symAt n).isSome
theorem presL_mem {r:Nets.Rec} (ok:RecOk r) {a:Nat}:a∈presL r↔∃ s,r.symAt a=some s:=by
  unfold presL
  rw [List.mem_filter,List.mem_range]
  constructor
  · intro h
    exact Option.isSome_iff_exists.mp h.2
  · rintro ⟨s,h⟩
    have:(r.symAt a).isSome=true:=by rw [h];rfl
    exact ⟨ok.sym_lt this,this⟩
theorem presL_nd (r:Nets.Rec):(presL r).Nodup:=List.Pairwise.filter _ List.nodup_range
def nfit (u v:Option Nat):Prop:=u=v∨∃ x y,u=some x∧v=some y∧x<256∧y<256
def NamesFit (r q:Nets.Rec):Prop:=∀ n,n<16→nfit (r.at_ (256+n)) (q.at_ (256+n))
section
variable {r q:Nets.Rec} {f g:Nat→Option Nat} {φ ψ:Nat→Nat}
theorem map_nd {l:List Nat} {F:Nat→Nat} (nd:l.Nodup) (h:∀ a∈l,∀ b∈l,F a=F b→a=b):(l.map F).Nodup:=by
  refine List.pairwise_map.mpr (List.Pairwise.imp_of_mem (fun ha hb hne e=>hne (h _ ha _ hb e)) nd)
theorem iso_of (okr:RecOk r) (okq:RecOk q) (cl:Cl r q f g) (tot:∀ a s,r.symAt a=some s→∃ b,f a=some b) (cnt:(presL r).length=(presL q).length) (nf:NamesFit r q):∃ φ ψ,Iso r q φ ψ:=by
  have val:∀ {a b},f a=some b→(f a).getD 0=b:=fun h=>by rw [h];rfl
  have surj:∀ b s,q.symAt b=some s→∃ a,f a=some b:=fun b s hs=>by
    have nd:=map_nd (F:=fun a=>(f a).getD 0) (presL_nd r) fun a ha a' ha' e=>by
      obtain ⟨s1,h1⟩:=(presL_mem okr).mp ha
      obtain ⟨s2,h2⟩:=(presL_mem okr).mp ha'
      obtain ⟨b1,f1⟩:=tot a s1 h1
      obtain ⟨b2,f2⟩:=tot a' s2 h2
      have e:(f a).getD 0=(f a').getD 0:=e
      rw [val f1,val f2] at e
      subst e
      exact Option.some.inj (((cl.inv _ _).mp f1).symm.trans ((cl.inv _ _).mp f2))
    have p:=perm_of_sub _ (presL q) nd (fun x hx=>by
      obtain ⟨a,ha,e⟩:=List.mem_map.mp hx
      obtain ⟨s1,h1⟩:=(presL_mem okr).mp ha
      obtain ⟨b1,f1⟩:=tot a s1 h1
      have e:(f a).getD 0=x:=e
      rw [val f1] at e
      subst e
      obtain ⟨t,_,t2⟩:=cl.sym _ _ f1
      exact (presL_mem okq).mpr ⟨t,t2⟩) (by rw [List.length_map];exact cnt.symm)
    obtain ⟨a,ha,e⟩:=List.mem_map.mp (p.mem_iff.mpr ((presL_mem okq).mpr ⟨s,hs⟩))
    obtain ⟨s1,h1⟩:=(presL_mem okr).mp ha
    obtain ⟨b1,f1⟩:=tot a s1 h1
    have e:(f a).getD 0=b:=e
    rw [val f1] at e
    subst e
    exact ⟨a,f1⟩
  have key:∀ a s j,r.symAt a=some s→j<4→q.at_ (4*(f a).getD 0+j)=(r.at_ (4*a+j)).map (tr fun a=>(f a).getD 0):=fun a s j hs hj=>by
    obtain ⟨b,hf⟩:=tot a s hs
    rw [val hf]
    rcases cl.lnk a b j hf hj with o | ⟨n,o1,o2,o3⟩ | ⟨z,z',o1,o2,o3,o4,o5,o6⟩
    · rw [o.1,o.2];rfl
    · rw [o2,o3,Option.map_some,tr_name o1]
    · rw [o3,o4,Option.map_some,tr_port o1,val o6]
      exact congrArg some (by omega)
  refine ⟨fun a=>(f a).getD 0,fun b=>(g b).getD 0,fun a s hs=>?_,fun b s hs=>?_,key,fun n hn=>?_⟩
  · obtain ⟨b,hf⟩:=tot a s hs
    obtain ⟨t,t1,t2⟩:=cl.sym a b hf
    rw [hs] at t1
    cases t1
    show q.symAt ((f a).getD 0)=some s∧(g ((f a).getD 0)).getD 0=a
    rw [val hf]
    refine ⟨t2,?_⟩
    rw [(cl.inv _ _).mp hf];rfl
  · obtain ⟨a,hf⟩:=surj b s hs
    obtain ⟨t,t1,t2⟩:=cl.sym a b hf
    rw [hs] at t2
    cases t2
    show r.symAt ((g b).getD 0)=some s∧(f ((g b).getD 0)).getD 0=b
    rw [(cl.inv _ _).mp hf]
    exact ⟨t1,by show (f a).getD 0=b;exact val hf⟩
  · rcases nf n hn with e | ⟨x,y,e1,e2,e3,e4⟩
    · cases e2:r.at_ (256+n) with
      | none=>rw [← e,e2];rfl
      | some z =>
        by_cases c:256≤z
        · rw [← e,e2,Option.map_some,tr_name c]
        · have c:z<256:=by omega
          obtain ⟨t,ht⟩:=okr.to e2 c
          have l3:=(okr.linkOk _ _ e2).2.2.1
          have k:=key (z / 4) t (z%4) ht (by omega)
          rw [show 4*(z / 4)+z%4=z by omega,l3,Option.map_some,tr_name (by omega)] at k
          have l4:=(okq.linkOk _ _ k).2.2.1
          rw [l4,Option.map_some,tr_port c]
    · obtain ⟨t,ht⟩:=okr.to e1 e3
      have l3:=(okr.linkOk _ _ e1).2.2.1
      have k:=key (x / 4) t (x%4) ht (by omega)
      rw [show 4*(x / 4)+x%4=x by omega,l3,Option.map_some,tr_name (by omega)] at k
      have l4:=(okq.linkOk _ _ k).2.2.1
      rw [l4,e1,Option.map_some,tr_port e3]
theorem iso_count (okr:RecOk r) (okq:RecOk q) (iso:Iso r q φ ψ):(presL r).length=(presL q).length:=by
  have h1:=nd_len (l:=(presL r).map φ) (S:=presL q) (map_nd (presL_nd r) fun a ha a' ha' e=>by
    obtain ⟨s1,h1⟩:=(presL_mem okr).mp ha
    obtain ⟨s2,h2⟩:=(presL_mem okr).mp ha'
    have z1:=(iso.fwd _ _ h1).2
    have z2:=(iso.fwd _ _ h2).2
    rw [e,z2] at z1
    exact z1.symm) (fun x hx=>by
    obtain ⟨a,ha,e⟩:=List.mem_map.mp hx
    obtain ⟨s1,h1⟩:=(presL_mem okr).mp ha
    rw [← e]
    exact (presL_mem okq).mpr ⟨s1,(iso.fwd _ _ h1).1⟩)
  have h2:=nd_len (l:=(presL q).map ψ) (S:=presL r) (map_nd (presL_nd q) fun a ha a' ha' e=>by
    obtain ⟨s1,h1⟩:=(presL_mem okq).mp ha
    obtain ⟨s2,h2⟩:=(presL_mem okq).mp ha'
    have z1:=(iso.bwd _ _ h1).2
    have z2:=(iso.bwd _ _ h2).2
    rw [e,z2] at z1
    exact z1.symm) (fun x hx=>by
    obtain ⟨a,ha,e⟩:=List.mem_map.mp hx
    obtain ⟨s1,h1⟩:=(presL_mem okq).mp ha
    rw [← e]
    exact (presL_mem okr).mpr ⟨s1,(iso.bwd _ _ h1).1⟩)
  rw [List.length_map] at h1 h2
  omega
theorem iso_link (okr:RecOk r) (okq:RecOk q) (iso:Iso r q φ ψ) {u v:Option Nat} (hv:v=u.map (tr φ)) (hu:∀ x,u=some x→x<256→∃ s,r.symAt (x / 4)=some s) :
    (u=none∧v=none)∨(∃ x,256≤x∧u=some x∧v=some x)∨∃ x y,x<256∧y<256∧u=some x∧v=some y∧x%4=y%4∧y / 4=φ (x / 4)∧∃ s,r.symAt (x / 4)=some s:=by
  cases e:u with
  | none=>rw [e] at hv;exact .inl ⟨rfl,hv⟩
  | some x =>
    rw [e,Option.map_some] at hv
    by_cases c:256≤x
    · rw [tr_name c] at hv
      exact .inr (.inl ⟨x,c,rfl,hv⟩)
    · have c:x<256:=by omega
      obtain ⟨s,hs⟩:=hu x e c
      have:=okq.sym_lt (a:=φ (x / 4)) (by rw [(iso.fwd _ _ hs).1];rfl)
      rw [tr_port c] at hv
      exact .inr (.inr ⟨x,_,c,by omega,rfl,hv,by omega,by omega,s,hs⟩)
theorem iso_names (okr:RecOk r) (okq:RecOk q) (iso:Iso r q φ ψ):NamesFit r q:=fun n hn=>by
  rcases iso_link okr okq iso (iso.nam n hn) (fun x e c=>okr.to e c) with o | ⟨x,o1,o2,o3⟩ | ⟨x,y,o1,o2,o3,o4,_⟩
  · exact .inl (by rw [o.1,o.2])
  · exact .inl (by rw [o2,o3])
  · exact .inr ⟨x,y,o3,o4,o1,o2⟩
def okQ (R:Nat→Nat→Prop) (u v:Option Nat):Prop:=(u=none∧v=none)∨(∃ x,256≤x∧u=some x∧v=some x)∨∃ x y,x<256∧y<256∧u=some x∧v=some y∧x%4=y%4∧R (x / 4) (y / 4)
theorem okQ.mono {R R' : Nat→Nat→Prop} {u v:Option Nat} (h:okQ R u v) (k:∀ a b,R a b→R' a b):okQ R' u v:=by
  rcases h with o | o | ⟨x,y,o1,o2,o3,o4,o5,o6⟩
  · exact .inl o
  · exact .inr (.inl o)
  · exact .inr (.inr ⟨x,y,o1,o2,o3,o4,o5,k _ _ o6⟩)
def chk (u v:Option Nat):Bool:=match u,v with
  | none,none=>true
  | some u,some v=>if Nets.NAMES≤u∨Nets.NAMES≤v then u == v else u%4 == v%4
  | _,_=>false
def psh (u v:Option Nat):Option (Nat × Nat):=match u,v with
  | some u,some v=>if Nets.NAMES≤u then none else some (u / 4,v / 4)
  | _,_=>none
theorem chk_ok {R:Nat→Nat→Prop} {u v:Option Nat} (h:chk u v=true) (k:∀ p,psh u v=some p→R p.1 p.2):okQ R u v:=by
  cases u with
  | none =>
    cases v with
    | none=>exact .inl ⟨rfl,rfl⟩
    | some y=>cases h
  | some x =>
    cases v with
    | none=>cases h
    | some y =>
      have h:(if 256≤x∨256≤y then x == y else x%4 == y%4)=true:=h
      by_cases c:256≤x∨256≤y
      · rw [if_pos c,beq_iff_eq] at h
        subst h
        exact .inr (.inl ⟨x,by omega,rfl,rfl⟩)
      · rw [if_neg c,beq_iff_eq] at h
        refine .inr (.inr ⟨x,y,by omega,by omega,rfl,rfl,h,?_⟩)
        refine k (x / 4,y / 4) ?_
        show (if 256≤x then none else some (x / 4,y / 4))=_
        rw [if_neg (by omega)]
def jsL (r q:Nets.Rec) (a b:Nat):List (Option Nat × Option Nat):=(List.range 4).map fun (j:Nat)=>(r.at_ (4*a+j),q.at_ (4*b+j))
theorem follow_nil (n:Nat) (fm:Nets.Match):Nets.follow r q (n+1) [] fm=some fm:=rfl
theorem follow_cons (n a b:Nat) (l:List (Nat × Nat)) (fm:Nets.Match):Nets.follow r q (n+1) ((a,b)::l) fm=match fm.getD a none with
    | some c=>if c=b then Nets.follow r q n l fm else none
    | none=>if fm.contains (some b)=true∨r.symAt a≠q.symAt b∨(r.symAt a).isNone=true then none else
      if (jsL r q a b).all (fun x=>chk x.1 x.2)=true then Nets.follow r q n (l++(jsL r q a b).filterMap fun x=>psh x.1 x.2) (fm.set a (some b)) else none:=rfl
structure FI (r q:Nets.Rec) (fm:Nets.Match) (l:List (Nat × Nat)):Prop where
  len:fm.length=64
  inj:∀ a a' b,fm.getD a none=some b→fm.getD a' none=some b→a=a'
  sym:∀ a b,fm.getD a none=some b→∃ s,r.symAt a=some s∧q.symAt b=some s
  lnk:∀ a b j,fm.getD a none=some b→j<4→okQ (fun x y=>fm.getD x none=some y∨(x,y)∈l) (r.at_ (4*a+j)) (q.at_ (4*b+j))
theorem mem_getD {fm:List (Option Nat)} {b:Nat} (h:some b∈fm):∃ a,fm.getD a none=some b:=by
  obtain ⟨i,hi⟩:=List.getElem?_of_mem h
  exact ⟨i,by rw [List.getD_eq_getElem?_getD,hi];rfl⟩
theorem getD_mem {fm:List (Option Nat)} {a b:Nat} (h:fm.getD a none=some b):some b∈fm:=by
  rw [List.getD_eq_getElem?_getD] at h
  cases e:fm[a]? with
  | none=>rw [e] at h;cases h
  | some z =>
    rw [e] at h
    have h:z=some b:=h
    rw [← h]
    exact List.mem_of_getElem? e
theorem follow_sound (okr:RecOk r):∀ (n:Nat) (l:List (Nat × Nat)) (fm gm:Nets.Match),FI r q fm l→Nets.follow r q n l fm=some gm →
    FI r q gm []∧(∀ a b,fm.getD a none=some b→gm.getD a none=some b)∧∀ p∈l,gm.getD p.1 none=some p.2
  | 0,l,fm,gm,_,h=>by cases h
  | n+1,[],fm,gm,fi,h=>by
    rw [follow_nil] at h
    cases h
    exact ⟨fi,fun a b h=>h,fun p hp=>absurd hp (by simp)⟩
  | n+1,(a,b)::l,fm,gm,fi,h=>by
    rw [follow_cons] at h
    cases e:fm.getD a none with
    | some c =>
      rw [e] at h
      have h:(if c=b then Nets.follow r q n l fm else none)=some gm:=h
      by_cases z:c=b
      · subst z
        rw [if_pos rfl] at h
        obtain ⟨h1,h2,h3⟩:=follow_sound okr n l fm gm ⟨fi.len,fi.inj,fi.sym,fun a' b' j ha hj=>(fi.lnk a' b' j ha hj).mono fun x y hxy=>by
          rcases hxy with hxy | hxy
          · exact .inl hxy
          · rcases List.mem_cons.mp hxy with y | y
            · cases y;exact .inl e
            · exact .inr y⟩ h
        refine ⟨h1,h2,fun p hp=>?_⟩
        rcases List.mem_cons.mp hp with y | y
        · subst y;exact h2 _ _ e
        · exact h3 p y
      · rw [if_neg z] at h;cases h
    | none =>
      rw [e] at h
      have h:(if fm.contains (some b)=true∨r.symAt a≠q.symAt b∨(r.symAt a).isNone=true then none else
        if (jsL r q a b).all (fun x=>chk x.1 x.2)=true then Nets.follow r q n (l++(jsL r q a b).filterMap fun x=>psh x.1 x.2) (fm.set a (some b)) else none)=some gm:=h
      by_cases z:fm.contains (some b)=true∨r.symAt a≠q.symAt b∨(r.symAt a).isNone=true
      · rw [if_pos z] at h;cases h
      · rw [if_neg z] at h
        have z1:¬ some b∈fm:=fun y=>z (.inl (List.contains_iff_mem.mpr y))
        have z2:r.symAt a=q.symAt b:=Decidable.byContradiction fun y=>z (.inr (.inl y))
        obtain ⟨s,hs⟩ : ∃ s,r.symAt a=some s:=by
          cases y:r.symAt a with
          | none=>exact absurd (by rw [y];rfl) fun k=>z (.inr (.inr k))
          | some s=>exact ⟨s,rfl⟩
        have a64:=okr.sym_lt (a:=a) (by rw [hs];rfl)
        have set_:∀ x,(fm.set a (some b)).getD x none=if x=a then some b else fm.getD x none:=fun x=>by
          rw [getD_set]
          by_cases c:x=a
          · rw [if_pos ⟨c,by rw [fi.len];exact a64⟩,if_pos c]
          · rw [if_neg (fun k=>c k.1),if_neg c]
        by_cases y:(jsL r q a b).all (fun x=>chk x.1 x.2)=true
        · rw [if_pos y] at h
          have up:∀ x y,fm.getD x none=some y∨(x,y)∈(a,b)::l→(fm.set a (some b)).getD x none=some y∨(x,y)∈l++(jsL r q a b).filterMap fun x=>psh x.1 x.2:=fun x y hxy=>by
            rcases hxy with hxy | hxy
            · refine .inl ?_
              rw [set_,if_neg (fun k=>by rw [k,e] at hxy;cases hxy)]
              exact hxy
            · rcases List.mem_cons.mp hxy with y | y
              · cases y
                exact .inl (by rw [set_,if_pos rfl])
              · exact .inr (List.mem_append_left _ y)
          obtain ⟨h1,h2,h3⟩:=follow_sound okr n _ _ gm ⟨by rw [List.length_set];exact fi.len,fun x x' y hx hx'=>by
              rw [set_] at hx hx'
              by_cases c:x=a
              · by_cases c' : x'=a
                · rw [c,c']
                · rw [if_pos c] at hx
                  rw [if_neg c'] at hx'
                  cases hx
                  exact absurd (getD_mem hx') z1
              · by_cases c' : x'=a
                · rw [if_neg c] at hx
                  rw [if_pos c'] at hx'
                  cases hx'
                  exact absurd (getD_mem hx) z1
                · rw [if_neg c] at hx
                  rw [if_neg c'] at hx'
                  exact fi.inj _ _ _ hx hx',fun x y hx=>by
              rw [set_] at hx
              by_cases c:x=a
              · rw [if_pos c] at hx
                cases hx
                exact ⟨s,by rw [c];exact hs,by rw [← z2];exact hs⟩
              · rw [if_neg c] at hx
                exact fi.sym x y hx,fun x y j hx hj=>by
              rw [set_] at hx
              by_cases c:x=a
              · rw [if_pos c] at hx
                cases hx
                subst c
                have mem:(r.at_ (4*x+j),q.at_ (4*b+j))∈jsL r q x b:=List.mem_map.mpr ⟨j,List.mem_range.mpr hj,rfl⟩
                refine chk_ok (List.all_eq_true.mp y _ mem) fun p hp=>.inr (List.mem_append_right _ (List.mem_filterMap.mpr ⟨_,mem,hp⟩))
              · rw [if_neg c] at hx
                exact (fi.lnk x y j hx hj).mono up⟩ h
          refine ⟨h1,fun x y hx=>h2 x y ?_,fun p hp=>?_⟩
          · rw [set_,if_neg (fun k=>by rw [k,e] at hx;cases hx)]
            exact hx
          · rcases List.mem_cons.mp hp with y | y
            · subst y
              exact h2 _ _ (by rw [set_,if_pos rfl])
            · exact h3 p (List.mem_append_left _ y)
        · rw [if_neg y] at h;cases h
theorem set_none:∀ {fm:List (Option Nat)} {a b:Nat},a<fm.length→fm.getD a none=none→((fm.set a (some b)).filter Option.isNone).length+1=(fm.filter Option.isNone).length
  | [],a,b,h,_=>by simp at h
  | x::fm,0,b,h,e=>by
    have e:x=none:=e
    subst e
    rfl
  | x::fm,a+1,b,h,e=>by
    have ih:=set_none (fm:=fm) (a:=a) (b:=b) (by simpa using h) e
    show ((x::fm.set a (some b)).filter Option.isNone).length+1=_
    rw [List.filter_cons,List.filter_cons]
    cases x with
    | none=>simp only [Option.isNone_none,if_pos,List.length_cons];omega
    | some y=>exact ih
theorem follow_complete (okr:RecOk r) (okq:RecOk q) (iso:Iso r q φ ψ):∀ (n:Nat) (l:List (Nat × Nat)) (fm:Nets.Match),fm.length=64→(∀ a b,fm.getD a none=some b→(∃ s,r.symAt a=some s)∧b=φ a) →
    (∀ p∈l,(∃ s,r.symAt p.1=some s)∧p.2=φ p.1)→l.length+4*(fm.filter Option.isNone).length<n→∃ gm,Nets.follow r q n l fm=some gm
  | 0,l,fm,_,_,_,h=>absurd h (by omega)
  | n+1,[],fm,_,_,_,_=>⟨fm,follow_nil n fm⟩
  | n+1,(a,b)::l,fm,hl,hf,hp,hn=>by
    obtain ⟨⟨s,hs⟩,hb⟩:=hp (a,b) List.mem_cons_self
    have hs:r.symAt a=some s:=hs
    have hb:b=φ a:=hb
    have a64:=okr.sym_lt (a:=a) (by rw [hs];rfl)
    rw [List.length_cons] at hn
    rw [follow_cons]
    cases e:fm.getD a none with
    | some c =>
      show ∃ gm,(if c=b then Nets.follow r q n l fm else none)=some gm
      rw [if_pos (by rw [hb];exact (hf a c e).2)]
      exact follow_complete okr okq iso n l fm hl hf (fun p hp'=>hp p (List.mem_cons_of_mem _ hp')) (by omega)
    | none =>
      show ∃ gm,(if fm.contains (some b)=true∨r.symAt a≠q.symAt b∨(r.symAt a).isNone=true then none else
        if (jsL r q a b).all (fun x=>chk x.1 x.2)=true then Nets.follow r q n (l++(jsL r q a b).filterMap fun x=>psh x.1 x.2) (fm.set a (some b)) else none)=some gm
      have each:∀ x∈jsL r q a b,chk x.1 x.2=true∧∀ p,psh x.1 x.2=some p→(∃ s,r.symAt p.1=some s)∧p.2=φ p.1:=fun x hx=>by
        obtain ⟨j,hj,rfl⟩:=List.mem_map.mp hx
        have hj:=List.mem_range.mp hj
        have l:=iso.lnk a s j hs hj
        rw [← hb] at l
        show chk (r.at_ (4*a+j)) (q.at_ (4*b+j))=true∧∀ p,psh (r.at_ (4*a+j)) (q.at_ (4*b+j))=some p→_
        rcases iso_link okr okq iso l (fun x e c=>okr.to e c) with o | ⟨x,o1,o2,o3⟩ | ⟨x,y,o1,o2,o3,o4,o5,o6,t,o7⟩
        · rw [o.1,o.2]
          exact ⟨rfl,fun p hp=>by cases hp⟩
        · rw [o2,o3]
          refine ⟨?_,fun p hp=>?_⟩
          · show (if 256≤x∨256≤x then x == x else x%4 == x%4)=true
            rw [if_pos (.inl o1)]
            exact beq_self_eq_true _
          · have hp:(if 256≤x then none else some (x / 4,x / 4))=some p:=hp
            rw [if_pos o1] at hp;cases hp
        · rw [o3,o4]
          refine ⟨?_,fun p hp=>?_⟩
          · show (if 256≤x∨256≤y then x == y else x%4 == y%4)=true
            rw [if_neg (by omega),o5]
            exact beq_self_eq_true _
          · have hp:(if 256≤x then none else some (x / 4,y / 4))=some p:=hp
            rw [if_neg (by omega)] at hp
            cases hp
            exact ⟨⟨t,o7⟩,o6⟩
      have c1:¬ (fm.contains (some b)=true∨r.symAt a≠q.symAt b∨(r.symAt a).isNone=true):=by
        rintro (c | c | c)
        · obtain ⟨a',ha'⟩:=mem_getD (List.contains_iff_mem.mp c)
          obtain ⟨⟨s',hs'⟩,e'⟩:=hf a' b ha'
          have z1:=(iso.fwd _ _ hs).2
          have z2:=(iso.fwd _ _ hs').2
          rw [← hb] at z1
          rw [← e',z1] at z2
          rw [z2,ha'] at e
          cases e
        · exact c (by rw [hb,(iso.fwd _ _ hs).1,hs])
        · rw [hs] at c;cases c
      rw [if_neg c1,if_pos (List.all_eq_true.mpr fun x hx=>(each x hx).1)]
      have ln:=List.length_filterMap_le (fun x:Option Nat × Option Nat=>psh x.1 x.2) (jsL r q a b)
      have lj:(jsL r q a b).length=4:=by unfold jsL;rw [List.length_map,List.length_range]
      have ls:=set_none (fm:=fm) (a:=a) (b:=b) (by omega) e
      refine follow_complete okr okq iso n _ _ (by rw [List.length_set];exact hl) (fun x y hx=>?_) (fun p hp'=>?_) (by rw [List.length_append];omega)
      · rw [getD_set] at hx
        by_cases c:x=a∧a<fm.length
        · rw [if_pos c] at hx
          cases hx
          exact ⟨⟨s,by rw [c.1];exact hs⟩,by rw [c.1];exact hb⟩
        · rw [if_neg c] at hx
          exact hf x y hx
      · rcases List.mem_append.mp hp' with z | z
        · exact hp p (List.mem_cons_of_mem _ z)
        · obtain ⟨x,hx,hx2⟩:=List.mem_filterMap.mp z
          exact (each x hx).2 p hx2
def nstep (r q:Nets.Rec) (l:Option (List (Nat × Nat))) (n:Nat):Option (List (Nat × Nat)):=match l with
  | none=>none
  | some x=>match r.at_ (256+n),q.at_ (256+n) with
    | none,none=>some x
    | some u,some v=>if 256≤u∨256≤v then (if u=v then some x else none) else if u%4=v%4 then some (x++[(u / 4,v / 4)]) else none
    | _,_=>none
theorem fromNames_eq:Nets.fromNames r q=(List.range 16).foldl (nstep r q) (some []):=rfl
theorem nstep_none:∀ ns:List Nat,ns.foldl (nstep r q) none=none
  | []=>rfl
  | n::ns=>nstep_none ns
theorem nstep_sound:∀ (ns:List Nat) (x l:List (Nat × Nat)),ns.foldl (nstep r q) (some x)=some l→(∀ p∈x,p∈l)∧∀ n∈ns,nfit (r.at_ (256+n)) (q.at_ (256+n))
  | [],x,l,h=>by
    cases h
    exact ⟨fun p hp=>hp,fun n hn=>absurd hn (by simp)⟩
  | n::ns,x,l,h=>by
    rw [List.foldl_cons] at h
    cases e:nstep r q (some x) n with
    | none=>rw [e,nstep_none] at h;cases h
    | some x' =>
      rw [e] at h
      obtain ⟨h1,h2⟩:=nstep_sound ns x' l h
      have both:(∀ p∈x,p∈x')∧nfit (r.at_ (256+n)) (q.at_ (256+n)):=by
        unfold nstep at e
        cases e1:r.at_ (256+n) with
        | none =>
          cases e2:q.at_ (256+n) with
          | none =>
            rw [e1,e2] at e
            cases e
            exact ⟨fun p hp=>hp,.inl rfl⟩
          | some v=>rw [e1,e2] at e;cases e
        | some u =>
          cases e2:q.at_ (256+n) with
          | none=>rw [e1,e2] at e;cases e
          | some v =>
            rw [e1,e2] at e
            have e:(if 256≤u∨256≤v then (if u=v then some x else none) else if u%4=v%4 then some (x++[(u / 4,v / 4)]) else none)=some x':=e
            by_cases c:256≤u∨256≤v
            · rw [if_pos c] at e
              by_cases c2:u=v
              · rw [if_pos c2] at e
                cases e
                exact ⟨fun p hp=>hp,.inl (by rw [c2])⟩
              · rw [if_neg c2] at e;cases e
            · rw [if_neg c] at e
              by_cases c2:u%4=v%4
              · rw [if_pos c2] at e
                cases e
                exact ⟨fun p hp=>List.mem_append_left _ hp,.inr ⟨u,v,rfl,rfl,by omega,by omega⟩⟩
              · rw [if_neg c2] at e;cases e
      refine ⟨fun p hp=>h1 p (both.1 p hp),fun m hm=>?_⟩
      rcases List.mem_cons.mp hm with z | z
      · rw [z];exact both.2
      · exact h2 m z
theorem nstep_complete (okr:RecOk r) (okq:RecOk q) (iso:Iso r q φ ψ):∀ (ns:List Nat) (x:List (Nat × Nat)),(∀ n∈ns,n<16)→(∀ p∈x,(∃ s,r.symAt p.1=some s)∧p.2=φ p.1) →
    ∃ l,ns.foldl (nstep r q) (some x)=some l∧(∀ p∈l,(∃ s,r.symAt p.1=some s)∧p.2=φ p.1)∧l.length≤x.length+ns.length
  | [],x,_,hx=>⟨x,rfl,hx,Nat.le_refl _⟩
  | n::ns,x,hn,hx=>by
    have h16:=hn n List.mem_cons_self
    have step:∃ x',nstep r q (some x) n=some x'∧(∀ p∈x',(∃ s,r.symAt p.1=some s)∧p.2=φ p.1)∧x'.length≤x.length+1:=by
      unfold nstep
      rcases iso_link okr okq iso (iso.nam n h16) (fun x e c=>okr.to e c) with o | ⟨u,o1,o2,o3⟩ | ⟨u,v,o1,o2,o3,o4,o5,o6,t,o7⟩
      · rw [o.1,o.2]
        exact ⟨x,rfl,hx,by omega⟩
      · rw [o2,o3]
        refine ⟨x,?_,hx,by omega⟩
        show (if 256≤u∨256≤u then (if u=u then some x else none) else _)=some x
        rw [if_pos (.inl o1),if_pos rfl]
      · rw [o3,o4]
        refine ⟨x++[(u / 4,v / 4)],?_,fun p hp=>?_,by rw [List.length_append];exact Nat.le_refl _⟩
        · show (if 256≤u∨256≤v then _ else if u%4=v%4 then some (x++[(u / 4,v / 4)]) else none)=_
          rw [if_neg (by omega),if_pos o5]
        · rcases List.mem_append.mp hp with z | z
          · exact hx p z
          · have e:p=(u / 4,v / 4):=by simpa using z
            rw [e]
            exact ⟨⟨t,o7⟩,o6⟩
    obtain ⟨x',e,h1,h2⟩:=step
    obtain ⟨l,e2,h3,h4⟩:=nstep_complete okr okq iso ns x' (fun m hm=>hn m (List.mem_cons_of_mem _ hm)) h1
    exact ⟨l,by rw [List.foldl_cons,e];exact e2,h3,by rw [List.length_cons];omega⟩
def invF (fm:Nets.Match) (b:Nat):Option Nat:=(List.range 64).find? fun a=>decide (fm.getD a none=some b)
theorem FI.cl {fm:Nets.Match} (fi:FI r q fm []):Cl r q (fun a=>fm.getD a none) (invF fm):=by
  refine ⟨fun a b=>⟨fun h=>?_,fun h=>?_⟩,fi.sym,fun a b j h hj=>?_⟩
  · unfold invF
    have a64:a<64:=by rw [← fi.len];exact getD_lt (by rw [h];rfl)
    cases e:(List.range 64).find? fun a=>decide (fm.getD a none=some b) with
    | none=>exact absurd (decide_eq_true h) (List.find?_eq_none.mp e a (List.mem_range.mpr a64))
    | some a' =>
      have q:=List.find?_some (p:=fun a=>decide (fm.getD a none=some b)) e
      rw [fi.inj _ _ _ h (of_decide_eq_true (p:=fm.getD a' none=some b) q)]
  · unfold invF at h
    have q:=List.find?_some (p:=fun a=>decide (fm.getD a none=some b)) h
    exact of_decide_eq_true (p:=fm.getD a none=some b) q
  · have k:okQ (fun x y=>fm.getD x none=some y) (r.at_ (4*a+j)) (q.at_ (4*b+j)):=(fi.lnk a b j h hj).mono fun x y hxy=>by
      rcases hxy with z | z
      · exact z
      · exact absurd z (by simp)
    exact k
theorem FI.weak {fm:Nets.Match} (fi:FI r q fm []) (l:List (Nat × Nat)):FI r q fm l:=⟨fi.len,fi.inj,fi.sym,fun a b j h hj=>(fi.lnk a b j h hj).mono fun x y hxy=>by
  rcases hxy with z | z
  · exact .inl z
  · exact absurd z (by simp)⟩
theorem matchOn_cons (a:Nat) (l:List Nat) (fm:Nets.Match):Nets.matchOn r q (a::l) fm=if (r.symAt a).isNone=true∨(fm.getD a none).isSome=true then Nets.matchOn r q l fm else match (List.range 64).findSome? fun (b:Nat)=>Nets.follow r q 400 [(a,b)] fm with
    | none=>none
    | some gm=>Nets.matchOn r q l gm:=rfl
theorem matchOn_sound (okr:RecOk r):∀ (L:List Nat) (fm gm:Nets.Match),FI r q fm []→Nets.matchOn r q L fm=some gm→FI r q gm []∧(∀ a b,fm.getD a none=some b→gm.getD a none=some b)∧∀ a∈L,∀ s,r.symAt a=some s→∃ b,gm.getD a none=some b
  | [],fm,gm,fi,h=>by
    cases h
    exact ⟨fi,fun a b h=>h,fun a ha=>absurd ha (by simp)⟩
  | a::L,fm,gm,fi,h=>by
    rw [matchOn_cons] at h
    by_cases c:(r.symAt a).isNone=true∨(fm.getD a none).isSome=true
    · rw [if_pos c] at h
      obtain ⟨h1,h2,h3⟩:=matchOn_sound okr L fm gm fi h
      refine ⟨h1,h2,fun x hx s hs=>?_⟩
      rcases List.mem_cons.mp hx with z | z
      · subst z
        rcases c with c | c
        · rw [hs] at c;cases c
        · obtain ⟨b,hb⟩:=Option.isSome_iff_exists.mp c
          exact ⟨b,h2 _ _ hb⟩
      · exact h3 x z s hs
    · rw [if_neg c] at h
      cases e:(List.range 64).findSome? fun (b:Nat)=>Nets.follow r q 400 [(a,b)] fm with
      | none=>rw [e] at h;cases h
      | some g1 =>
        rw [e] at h
        have h:Nets.matchOn r q L g1=some gm:=h
        obtain ⟨b,_,hb⟩:=List.exists_of_findSome?_eq_some e
        obtain ⟨f1,f2,f3⟩:=follow_sound okr 400 _ _ _ (fi.weak _) hb
        obtain ⟨h1,h2,h3⟩:=matchOn_sound okr L g1 gm f1 h
        refine ⟨h1,fun x y hx=>h2 x y (f2 x y hx),fun x hx s hs=>?_⟩
        rcases List.mem_cons.mp hx with z | z
        · subst z
          exact ⟨b,h2 _ _ (f3 (x,b) List.mem_cons_self)⟩
        · exact h3 x z s hs
theorem none_le (fm:Nets.Match) (h:fm.length=64):(fm.filter Option.isNone).length≤64:=by
  rw [← h];exact List.length_filter_le _ _
theorem matchOn_complete (okr:RecOk r) (okq:RecOk q):∀ (L:List Nat) (fm:Nets.Match) (φ ψ:Nat→Nat),Iso r q φ ψ→FI r q fm []→(∀ a b,fm.getD a none=some b→φ a=b)→∃ gm,Nets.matchOn r q L fm=some gm
  | [],fm,φ,ψ,_,_,_=>⟨fm,rfl⟩
  | a::L,fm,φ,ψ,iso,fi,hx=>by
    rw [matchOn_cons]
    by_cases c:(r.symAt a).isNone=true∨(fm.getD a none).isSome=true
    · rw [if_pos c]
      exact matchOn_complete okr okq L fm φ ψ iso fi hx
    · rw [if_neg c]
      obtain ⟨s,hs⟩ : ∃ s,r.symAt a=some s:=by
        cases y:r.symAt a with
        | none=>exact absurd (by rw [y];rfl) fun k=>c (.inl k)
        | some s=>exact ⟨s,rfl⟩
      have hφ:=(iso.fwd a s hs).1
      have b64:=okq.sym_lt (a:=φ a) (by rw [hφ];rfl)
      obtain ⟨g0,hg0⟩:=follow_complete okr okq iso 400 [(a,φ a)] fm fi.len (fun x y hxy=>by
        obtain ⟨t,t1,_⟩:=fi.sym x y hxy
        exact ⟨⟨t,t1⟩,(hx x y hxy).symm⟩) (fun p hp=>by
        have e:p=(a,φ a):=by simpa using hp
        rw [e]
        exact ⟨⟨s,hs⟩,rfl⟩) (by have:=none_le fm fi.len;simp;omega)
      cases e:(List.range 64).findSome? fun (b:Nat)=>Nets.follow r q 400 [(a,b)] fm with
      | none =>
        have z:=List.findSome?_eq_none_iff.mp e (φ a) (List.mem_range.mpr b64)
        rw [hg0] at z
        cases z
      | some g1 =>
        obtain ⟨b,_,hb⟩:=List.exists_of_findSome?_eq_some e
        obtain ⟨f1,f2,f3⟩:=follow_sound okr 400 _ _ _ (fi.weak _) hb
        obtain ⟨φ',ψ',iso',hx'⟩:=ext_iso okr okq iso f1.cl
        exact matchOn_complete okr okq L g1 φ' ψ' iso' f1 hx'
theorem FI.empty:FI r q (List.replicate 64 none) []:=by
  have e:∀ a,(List.replicate 64 (none:Option Nat)).getD a none=none:=fun a=>by
    rw [List.getD_eq_getElem?_getD,List.getElem?_replicate]
    split <;> rfl
  refine ⟨by simp,fun a a' b h=>?_,fun a b h=>?_,fun a b j h=>?_⟩ <;> (rw [e] at h;cases h)
theorem same_def:Nets.same r q=(Nets.count r == Nets.count q && match Nets.fromNames r q with
    | none=>false
    | some x=>match Nets.follow r q 400 x (List.replicate 64 none) with
      | none=>false
      | some f=>(Nets.matchOn r q (List.range 64) f).isSome):=rfl
theorem same_iff (okr:RecOk r) (okq:RecOk q):Nets.same r q=true↔∃ φ ψ,Iso r q φ ψ:=by
  rw [same_def,Bool.and_eq_true,beq_iff_eq,count_eq okr,count_eq okq]
  constructor
  · rintro ⟨hc,h⟩
    cases e1:Nets.fromNames r q with
    | none=>rw [e1] at h;cases h
    | some x =>
      rw [e1] at h
      have h:(match Nets.follow r q 400 x (List.replicate 64 none) with
        | none=>false
        | some f=>(Nets.matchOn r q (List.range 64) f).isSome)=true:=h
      cases e2:Nets.follow r q 400 x (List.replicate 64 none) with
      | none=>rw [e2] at h;cases h
      | some fm =>
        rw [e2] at h
        have h:(Nets.matchOn r q (List.range 64) fm).isSome=true:=h
        obtain ⟨gm,hg⟩:=Option.isSome_iff_exists.mp h
        obtain ⟨f1,_,_⟩:=follow_sound okr 400 _ _ _ (FI.empty.weak _) e2
        obtain ⟨g1,g2,g3⟩:=matchOn_sound okr _ _ _ f1 hg
        rw [fromNames_eq] at e1
        obtain ⟨_,n2⟩:=nstep_sound _ _ _ e1
        exact iso_of okr okq g1.cl (fun a s hs=>g3 a (List.mem_range.mpr (okr.sym_lt (by rw [hs];rfl))) s hs) hc fun n hn=>n2 n (List.mem_range.mpr hn)
  · rintro ⟨φ,ψ,iso⟩
    refine ⟨iso_count okr okq iso,?_⟩
    obtain ⟨l,e1,h1,h2⟩:=nstep_complete okr okq iso (List.range 16) [] (fun n hn=>List.mem_range.mp hn) (fun p hp=>absurd hp (by simp))
    rw [← fromNames_eq] at e1
    rw [e1]
    show (match Nets.follow r q 400 l (List.replicate 64 none) with
        | none=>false
        | some f=>(Nets.matchOn r q (List.range 64) f).isSome)=true
    have fe:FI r q (List.replicate 64 none) []:=FI.empty
    rw [List.length_range] at h2
    obtain ⟨fm,e2⟩:=follow_complete okr okq iso 400 l (List.replicate 64 none) fe.len (fun a b h=>by
      obtain ⟨s,s1,_⟩:=fe.sym a b h
      have e:(List.replicate 64 (none:Option Nat)).getD a none=none:=by
        rw [List.getD_eq_getElem?_getD,List.getElem?_replicate]
        split <;> rfl
      rw [e] at h;cases h) h1 (by have:=none_le _ fe.len;simp at h2;omega)
    rw [e2]
    obtain ⟨f1,_,_⟩:=follow_sound okr 400 _ _ _ (FI.empty.weak _) e2
    obtain ⟨φ',ψ',iso',hx'⟩:=ext_iso okr okq iso f1.cl
    obtain ⟨gm,hg⟩:=matchOn_complete okr okq (List.range 64) fm φ' ψ' iso' f1 hx'
    show (Nets.matchOn r q (List.range 64) fm).isSome=true
    rw [hg];rfl
end
def LC (r:Nets.Rec) (S:Nat→Prop):Prop:=∀ x y,r.at_ x=some y→x<256→y<256→S (x / 4)→S (y / 4)
structure J (r q:Nets.Rec) (a0 b0:Nat) (f g:Nat→Option Nat) (Uk:Nat→Nat→Prop):Prop where
  inv:∀ a b,f a=some b↔g b=some a
  sym:∀ a b,f a=some b→∃ s,r.symAt a=some s∧q.symAt b=some s
  lnk:∀ a b j,f a=some b→j<4→¬ Uk a j→okL f (r.at_ (4*a+j)) (q.at_ (4*b+j))
  fit:∀ φ ψ,Iso r q φ ψ→φ a0=b0→∀ a b,f a=some b→φ a=b
  ra:∀ S,LC r S→¬ S a0→∀ a b,f a=some b→¬ S a
  rb:∀ S,LC q S→¬ S b0→∀ a b,f a=some b→¬ S b
def fAdd (f:Nat→Option Nat) (a b:Nat) (x:Nat):Option Nat:=if x=a then some b else f x
theorem okL.up {f f' : Nat→Option Nat} {u v:Option Nat} (h:okL f u v) (k:∀ a b,f a=some b→f' a=some b):okL f' u v:=by
  rcases h with o | o | ⟨x,y,o1,o2,o3,o4,o5,o6⟩
  · exact .inl o
  · exact .inr (.inl o)
  · exact .inr (.inr ⟨x,y,o1,o2,o3,o4,o5,k _ _ o6⟩)
theorem fAdd_up {f:Nat→Option Nat} {a b:Nat} (h:f a=none):∀ x y,f x=some y→fAdd f a b x=some y:=fun x y hx=>by
  unfold fAdd
  rw [if_neg (fun z=>by rw [z,h] at hx;cases hx)]
  exact hx
section
variable {r q:Nets.Rec} {f g:Nat→Option Nat} {a0 b0:Nat} {Uk:Nat→Nat→Prop}
theorem J.empty:J r q a0 b0 (fun _=>none) (fun _=>none) Uk:=⟨fun a b=>⟨fun h=>(by cases h),fun h=>(by cases h)⟩,fun a b h=>(by cases h),fun a b j h=>(by cases h),fun φ ψ _ _ a b h=>(by cases h),fun S _ _ a b h=>(by cases h),fun S _ _ a b h=>(by cases h)⟩
theorem J.mono {Uk' : Nat→Nat→Prop} (h:J r q a0 b0 f g Uk) (k:∀ a j,j<4→Uk a j→Uk' a j):J r q a0 b0 f g Uk':=⟨h.inv,h.sym,fun a b j ha hj hn=>h.lnk a b j ha hj fun z=>hn (k a j hj z),h.fit,h.ra,h.rb⟩
theorem J.add (h:J r q a0 b0 f g Uk) {a b s:Nat} (hf:f a=none) (hg:g b=none) (h1:r.symAt a=some s) (h2:q.symAt b=some s) (ft:∀ φ ψ,Iso r q φ ψ→φ a0=b0→φ a=b)
    (ra:∀ S,LC r S→¬ S a0→¬ S a) (rb:∀ S,LC q S→¬ S b0→¬ S b):J r q a0 b0 (fAdd f a b) (fAdd g b a) (fun x j=>Uk x j∨x=a):=by
  refine ⟨fun x y=>?_,fun x y hx=>?_,fun x y j hx hj hn=>?_,fun φ ψ iso e x y hx=>?_,fun S hS h0 x y hx=>?_,fun S hS h0 x y hx=>?_⟩
  · unfold fAdd
    by_cases c1:x=a
    · by_cases c2:y=b
      · rw [if_pos c1,if_pos c2,c1,c2]
        exact ⟨fun _=>rfl,fun _=>rfl⟩
      · rw [if_pos c1,if_neg c2]
        exact ⟨fun z=>absurd (Option.some.inj z).symm c2,fun z=>by rw [← h.inv,c1,hf] at z;cases z⟩
    · by_cases c2:y=b
      · rw [if_neg c1,if_pos c2]
        exact ⟨fun z=>(by rw [h.inv,c2,hg] at z;cases z),fun z=>absurd (Option.some.inj z).symm c1⟩
      · rw [if_neg c1,if_neg c2]
        exact h.inv x y
  · unfold fAdd at hx
    by_cases c1:x=a
    · rw [if_pos c1] at hx
      cases hx
      exact ⟨s,by rw [c1];exact h1,h2⟩
    · rw [if_neg c1] at hx
      exact h.sym x y hx
  · unfold fAdd at hx
    by_cases c1:x=a
    · exact absurd (.inr c1) hn
    · rw [if_neg c1] at hx
      exact (h.lnk x y j hx hj fun z=>hn (.inl z)).up (fAdd_up hf)
  · unfold fAdd at hx
    by_cases c1:x=a
    · rw [if_pos c1] at hx
      cases hx
      rw [c1]
      exact ft φ ψ iso e
    · rw [if_neg c1] at hx
      exact h.fit φ ψ iso e x y hx
  · unfold fAdd at hx
    by_cases c1:x=a
    · rw [c1]
      exact ra S hS h0
    · rw [if_neg c1] at hx
      exact h.ra S hS h0 x y hx
  · unfold fAdd at hx
    by_cases c1:x=a
    · rw [if_pos c1] at hx
      cases hx
      exact rb S hS h0
    · rw [if_neg c1] at hx
      exact h.rb S hS h0 x y hx
def ma (r q:Nets.Rec) (f g:Nat→Option Nat) (a b:Nat):Option Bool:=match f a with
  | some c=>if c=b then some false else none
  | none=>if (g b).isSome=true then none else if r.symAt a=q.symAt b then some true else none
def mpR (r q:Nets.Rec) (f g:Nat→Option Nat) (u v:Option Nat):Option (Option (Nat × Nat)):=match u,v with
  | none,none=>some none
  | some x,some y=>if x<256∧y<256 then (if x%4=y%4 then (match ma r q f g (x / 4) (y / 4) with
    | none=>none
    | some false=>some none
    | some true=>some (some (x / 4,y / 4))) else none) else if x=y then some none else none
  | _,_=>none
theorem mpR_port {x y:Nat} (hx:x<256) (hy:y<256):mpR r q f g (some x) (some y)=if x%4=y%4 then (match ma r q f g (x / 4) (y / 4) with
    | none=>none
    | some false=>some none
    | some true=>some (some (x / 4,y / 4))) else none:=by
  show (if x<256∧y<256 then _ else _)=_
  rw [if_pos ⟨hx,hy⟩]
theorem ma_true {a b:Nat} (h:ma r q f g a b=some true):f a=none∧g b=none∧r.symAt a=q.symAt b:=by
  unfold ma at h
  cases e:f a with
  | some c =>
    rw [e] at h
    have h:(if c=b then some false else none)=some true:=h
    by_cases z:c=b
    · rw [if_pos z] at h;cases h
    · rw [if_neg z] at h;cases h
  | none =>
    rw [e] at h
    have h:(if (g b).isSome=true then none else if r.symAt a=q.symAt b then some true else none)=some true:=h
    cases e2:g b with
    | some z=>rw [e2] at h;cases h
    | none =>
      rw [e2] at h
      have h:(if r.symAt a=q.symAt b then some true else none)=some true:=h
      by_cases z:r.symAt a=q.symAt b
      · exact ⟨rfl,rfl,z⟩
      · rw [if_neg z] at h;cases h
theorem ma_false {a b:Nat} (h:ma r q f g a b=some false):f a=some b:=by
  unfold ma at h
  cases e:f a with
  | some c =>
    rw [e] at h
    have h:(if c=b then some false else none)=some false:=h
    by_cases z:c=b
    · rw [z]
    · rw [if_neg z] at h;cases h
  | none =>
    rw [e] at h
    have h:(if (g b).isSome=true then none else if r.symAt a=q.symAt b then some true else none)=some false:=h
    by_cases z:(g b).isSome=true
    · rw [if_pos z] at h;cases h
    · rw [if_neg z] at h
      by_cases z2:r.symAt a=q.symAt b
      · rw [if_pos z2] at h;cases h
      · rw [if_neg z2] at h;cases h
theorem ma_no (j:J r q a0 b0 f g Uk) {a b s:Nat} (hs:r.symAt a=some s) (h:ma r q f g a b=none) {φ ψ:Nat→Nat} (iso:Iso r q φ ψ) (h0:φ a0=b0):φ a≠b:=fun e=>by
  unfold ma at h
  cases e1:f a with
  | some c =>
    rw [e1] at h
    have h:(if c=b then some false else none)=none:=h
    rw [if_pos (by rw [← e];exact (j.fit φ ψ iso h0 a c e1).symm)] at h
    cases h
  | none =>
    rw [e1] at h
    have h:(if (g b).isSome=true then none else if r.symAt a=q.symAt b then some true else none)=none:=h
    cases e2:g b with
    | some a' =>
      have hf:=(j.inv _ _).mpr e2
      obtain ⟨t,t1,t2⟩:=j.sym _ _ hf
      have z:=j.fit φ ψ iso h0 a' b hf
      have z1:=(iso.fwd _ _ hs).2
      have z2:=(iso.fwd _ _ t1).2
      rw [e] at z1
      rw [z,z1] at z2
      rw [z2,hf] at e1
      cases e1
    | none =>
      rw [e2] at h
      have h:(if r.symAt a=q.symAt b then some true else none)=none:=h
      rw [if_pos (by rw [← e,(iso.fwd _ _ hs).1,hs])] at h
      cases h
theorem mp_no (okr:RecOk r) (okq:RecOk q) (jj:J r q a0 b0 f g Uk) {a b i:Nat} (hf:f a=some b) (hi:i<4) (h:mpR r q f g (r.at_ (4*a+i)) (q.at_ (4*b+i))=none) {φ ψ:Nat→Nat} (iso:Iso r q φ ψ):φ a0≠b0:=fun h0=>by
  obtain ⟨s,s1,s2⟩:=jj.sym a b hf
  have l:=iso.lnk a s i s1 hi
  rw [jj.fit φ ψ iso h0 a b hf] at l
  rcases iso_link okr okq iso l (fun x e c=>okr.to e c) with o | ⟨x,o1,o2,o3⟩ | ⟨x,y,o1,o2,o3,o4,o5,o6,t,o7⟩
  · rw [o.1,o.2] at h;cases h
  · rw [o2,o3] at h
    have h:(if x<256∧x<256 then _ else if x=x then some none else none)=none:=h
    rw [if_neg (by omega),if_pos rfl] at h
    cases h
  · rw [o3,o4,mpR_port o1 o2,if_pos o5] at h
    cases e:ma r q f g (x / 4) (y / 4) with
    | none=>exact ma_no jj o7 e iso h0 o6.symm
    | some c =>
      rw [e] at h
      cases c <;> cases h
theorem mp_same {u v:Option Nat} (h:mpR r q f g u v=some none):okL f u v:=by
  cases u with
  | none =>
    cases v with
    | none=>exact .inl ⟨rfl,rfl⟩
    | some y=>cases h
  | some x =>
    cases v with
    | none=>cases h
    | some y =>
      by_cases c:x<256∧y<256
      · rw [mpR_port c.1 c.2] at h
        by_cases c2:x%4=y%4
        · rw [if_pos c2] at h
          cases e:ma r q f g (x / 4) (y / 4) with
          | none=>rw [e] at h;cases h
          | some z =>
            rw [e] at h
            cases z with
            | true=>cases h
            | false=>exact .inr (.inr ⟨x,y,c.1,c.2,rfl,rfl,c2,ma_false e⟩)
        · rw [if_neg c2] at h;cases h
      · have h:(if x<256∧y<256 then _ else if x=y then some none else none)=some none:=h
        rw [if_neg c] at h
        by_cases c2:x=y
        · subst c2
          exact .inr (.inl ⟨x,by omega,rfl,rfl⟩)
        · rw [if_neg c2] at h;cases h
theorem mp_new {u v:Option Nat} {a' b' : Nat} (h:mpR r q f g u v=some (some (a',b'))):∃ x y,u=some x∧v=some y∧x<256∧y<256∧x%4=y%4∧a'=x / 4∧b'=y / 4∧f a'=none∧g b'=none∧r.symAt a'=q.symAt b':=by
  cases u with
  | none =>
    cases v with
    | none=>cases h
    | some y=>cases h
  | some x =>
    cases v with
    | none=>cases h
    | some y =>
      by_cases c:x<256∧y<256
      · rw [mpR_port c.1 c.2] at h
        by_cases c2:x%4=y%4
        · rw [if_pos c2] at h
          cases e:ma r q f g (x / 4) (y / 4) with
          | none=>rw [e] at h;cases h
          | some z =>
            rw [e] at h
            cases z with
            | false=>cases h
            | true =>
              cases h
              obtain ⟨m1,m2,m3⟩:=ma_true e
              exact ⟨x,y,rfl,rfl,c.1,c.2,c2,rfl,rfl,m1,m2,m3⟩
        · rw [if_neg c2] at h;cases h
      · have h:(if x<256∧y<256 then _ else if x=y then some none else none)=some (some (a',b')):=h
        rw [if_neg c] at h
        by_cases c2:x=y
        · rw [if_pos c2] at h;cases h
        · rw [if_neg c2] at h;cases h
theorem J.step (okr:RecOk r) (okq:RecOk q) (jj:J r q a0 b0 f g Uk) {a b i a' b' : Nat} (hf:f a=some b) (hi:i<4) (h:mpR r q f g (r.at_ (4*a+i)) (q.at_ (4*b+i))=some (some (a',b'))) :
    J r q a0 b0 (fAdd f a' b') (fAdd g b' a') (fun x j=>Uk x j∨x=a')∧okL (fAdd f a' b') (r.at_ (4*a+i)) (q.at_ (4*b+i))∧f a'=none∧g b'=none∧a'<64∧b'<64:=by
  obtain ⟨x,y,e1,e2,hx,hy,hm,rfl,rfl,h1,h2,h3⟩:=mp_new h
  obtain ⟨s,hs⟩:=okr.to e1 hx
  obtain ⟨t,t1,t2⟩:=jj.sym a b hf
  have a64:=okr.sym_lt (a:=a) (by rw [t1];rfl)
  have b64:=okq.sym_lt (a:=b) (by rw [t2];rfl)
  have l1:=(okr.linkOk _ _ e1).2.2.1
  have l2:=(okq.linkOk _ _ e2).2.2.1
  refine ⟨jj.add h1 h2 hs (by rw [← h3];exact hs) (fun φ ψ iso h0=>?_) (fun S hS hn z=>?_) (fun S hS hn z=>?_),.inr (.inr ⟨x,y,hx,hy,e1,e2,hm,by unfold fAdd;rw [if_pos rfl]⟩),h1,h2,by omega,by omega⟩
  · have l:=iso.lnk a t i t1 hi
    rw [jj.fit φ ψ iso h0 a b hf,e1,e2,Option.map_some,tr_port hx] at l
    have:=Option.some.inj l
    omega
  · have w:=hS _ _ l1 hx (by omega) z
    rw [show (4*a+i) / 4=a by omega] at w
    exact jj.ra S hS hn a b hf w
  · have w:=hS _ _ l2 hy (by omega) z
    rw [show (4*b+i) / 4=b by omega] at w
    exact jj.rb S hS hn a b hf w
def undom (f:Nat→Option Nat):Nat:=((List.range 64).filter fun a=>(f a).isNone).length
theorem undom_add {a b:Nat} (h:f a=none) (ha:a<64):undom (fAdd f a b)+1=undom f:=by
  unfold undom
  have e:((List.range 64).filter fun x=>(fAdd f a b x).isNone)=((List.range 64).filter fun x=>(f x).isNone).filter fun x=>x != a:=by
    rw [List.filter_filter]
    refine List.filter_congr fun x _=>?_
    unfold fAdd
    by_cases c:x=a
    · rw [if_pos c,c];simp
    · rw [if_neg c,bne_iff_ne.mpr c,Bool.true_and]
  rw [e]
  exact drop1 (List.Pairwise.filter _ List.nodup_range) (List.mem_filter.mpr ⟨List.mem_range.mpr ha,by rw [h];rfl⟩)
theorem Cl.lc (cl:Cl r q f g):LC r fun a=>∃ b,f a=some b:=fun x y h hx hy ⟨b,hb⟩=>by
  rw [show x=4*(x / 4)+x%4 by omega] at h
  rcases cl.lnk _ _ _ hb (Nat.mod_lt x (by decide)) with o | ⟨n,o1,o2,o3⟩ | ⟨z,z',o1,o2,o3,o4,o5,o6⟩
  · rw [o.1] at h;cases h
  · rw [o2] at h;cases h;omega
  · rw [o3] at h;cases h;exact ⟨_,o6⟩
theorem Cl.lc2 (cl:Cl r q f g):LC q fun b=>∃ a,g b=some a:=fun x y h hx hy ⟨a,ha⟩=>by
  rw [show x=4*(x / 4)+x%4 by omega] at h
  rcases cl.lnk _ _ _ ((cl.inv _ _).mpr ha) (Nat.mod_lt x (by decide)) with o | ⟨n,o1,o2,o3⟩ | ⟨z,z',o1,o2,o3,o4,o5,o6⟩
  · rw [o.2] at h;cases h
  · rw [o3] at h;cases h;omega
  · rw [o4] at h;cases h;exact ⟨_,(cl.inv _ _).mp o6⟩
theorem J.join {U Vv:Nat→Option Nat} (jj:J r q a0 b0 f g (fun _ _=>False)) (cl:Cl r q U Vv) (ha:U a0=none) (hb:Vv b0=none):Cl r q (fun a=>(f a).or (U a)) (fun b=>(g b).or (Vv b)):=by
  have d1:∀ a b,f a=some b→U a=none:=fun a b h=>by
    cases e:U a with
    | none=>rfl
    | some c=>exact absurd ⟨c,e⟩ (jj.ra _ cl.lc (fun ⟨b,z⟩=>by rw [ha] at z;cases z) a b h)
  have d2:∀ a b,f a=some b→Vv b=none:=fun a b h=>by
    cases e:Vv b with
    | none=>rfl
    | some c=>exact absurd ⟨c,e⟩ (jj.rb _ cl.lc2 (fun ⟨b,z⟩=>by rw [hb] at z;cases z) a b h)
  have cases_:∀ a b,(f a).or (U a)=some b→f a=some b∨(f a=none∧U a=some b):=fun a b h=>by
    cases e:f a with
    | none=>rw [e] at h;exact .inr ⟨rfl,h⟩
    | some c=>rw [e] at h;exact .inl h
  refine ⟨fun a b=>⟨fun h=>?_,fun h=>?_⟩,fun a b h=>?_,fun a b j h hj=>?_⟩
  · show (g b).or (Vv b)=some a
    rcases cases_ a b h with z | ⟨z1,z2⟩
    · rw [(jj.inv _ _).mp z];rfl
    · cases e:g b with
      | none=>exact (cl.inv _ _).mp z2
      | some a' =>
        have:=d2 _ _ ((jj.inv _ _).mpr e)
        rw [(cl.inv _ _).mp z2] at this
        cases this
  · show (f a).or (U a)=some b
    have h:(g b).or (Vv b)=some a:=h
    cases e:g b with
    | some a' =>
      rw [e] at h
      cases h
      rw [(jj.inv _ _).mpr e];rfl
    | none =>
      rw [e] at h
      have h:Vv b=some a:=h
      have hU:=(cl.inv _ _).mpr h
      cases e2:f a with
      | none=>exact hU
      | some b' =>
        have:=d1 _ _ e2
        rw [hU] at this
        cases this
  · rcases cases_ a b h with z | ⟨z1,z2⟩
    · exact jj.sym a b z
    · exact cl.sym a b z2
  · rcases cases_ a b h with z | ⟨z1,z2⟩
    · exact (jj.lnk a b j z hj (fun k=>k)).up fun x y hxy=>by show (f x).or (U x)=some y;rw [hxy];rfl
    · exact (cl.lnk a b j z2 hj).up fun x y hxy=>by
        show (f x).or (U x)=some y
        cases e:f x with
        | none=>exact hxy
        | some c =>
          have:=d1 _ _ e
          rw [hxy] at this
          cases this
end
structure TxtM (K:PySem.W.Frag) (CM:Addr):Prop where
  cl:Cls K CM
  nLeft:NoAttr K CM "left"
  nRight:NoAttr K CM "right"
  nPartners:NoAttr K CM "partners"
  nTaken:NoAttr K CM "taken"
  nWaiting:NoAttr K CM "waiting"
structure MatAd where
  m:Addr
  dm:Addr
  pa:Addr
  ta:Addr
  wa:Addr
def matF (M:MatAd) (A B:RecAd):List (Str × V):=[("left",.ref A.p),("right",.ref B.p),("partners",.ref M.pa),("taken",.ref M.ta),("waiting",.ref M.wa)]
theorem matF_left (M:MatAd) (A B:RecAd):(matF M A B).lookup ("left" : Str)=some (.ref A.p):=rfl
theorem matF_right (M:MatAd) (A B:RecAd):(matF M A B).lookup ("right" : Str)=some (.ref B.p):=rfl
theorem matF_partners (M:MatAd) (A B:RecAd):(matF M A B).lookup ("partners" : Str)=some (.ref M.pa):=rfl
theorem matF_taken (M:MatAd) (A B:RecAd):(matF M A B).lookup ("taken" : Str)=some (.ref M.ta):=rfl
theorem matF_waiting (M:MatAd) (A B:RecAd):(matF M A B).lookup ("waiting" : Str)=some (.ref M.wa):=rfl
def tkV (g:Nat→Option Nat) (b:Nat):Option V:=(g b).map fun _=>V.bl true
structure MatAt (CM:Addr) (H:Hp) (M:MatAd) (A B:RecAd) (f g:Nat→Option Nat) (W:List Nat):Prop where
  obj:H M.m=some (.ins CM M.dm (matF M A B))
  pa:∃ kvs,H M.pa=some (.dK kvs)∧DictIs kvs f
  ta:∃ kvs,H M.ta=some (.dK kvs)∧DictV kvs (tkV g)
  wa:H M.wa=some (.lst (nats W))
  pt:M.pa≠M.ta
  sep:∀ x∈[A.p,A.ag,A.jo,B.p,B.ag,B.jo],x≠M.pa∧x≠M.ta∧x≠M.wa
  fl:∀ a,(f a).isSome=true→a<64
  gl:∀ b,(g b).isSome=true→b<64
  wl:W.length+undom f≤64
def FrameM (H H' : Hp) (M:MatAd):Prop:=∀ c o,H c=some o→c≠M.pa→c≠M.ta→c≠M.wa→H' c=some o
theorem FrameM.refl (H:Hp) (M:MatAd):FrameM H H M:=fun c o e _ _ _=>e
theorem FrameM.trans {H H1 H2:Hp} {M:MatAd} (a:FrameM H H1 M) (b:FrameM H1 H2 M):FrameM H H2 M:=fun c o e n1 n2 n3=>b c o (a c o e n1 n2 n3) n1 n2 n3
theorem NetRd.fr {C:Addr} {H H' : Hp} {A:RecAd} {r:Nets.Rec} {M:MatAd} (h:NetRd C H A r) (fr:FrameM H H' M) (sep:∀ x∈[A.p,A.ag,A.jo],x≠M.pa∧x≠M.ta∧x≠M.wa):NetRd C H' A r:=by
  obtain ⟨ka,ea,da⟩:=h.ag
  obtain ⟨kj,ej,dj⟩:=h.jo
  have k:∀ x∈[A.p,A.ag,A.jo],∀ o,H x=some o→H' x=some o:=fun x hx o e=>fr x o e (sep x hx).1 (sep x hx).2.1 (sep x hx).2.2
  have f:∀ {x:Addr} {o:HO},x∈[A.p,A.ag,A.jo]→Rd H x o→Rd H' x o:=fun {x o} hx z=>by
    rcases z with z | ⟨ob,z⟩
    · exact .inl (k x hx _ z)
    · exact .inr ⟨ob,k x hx _ z⟩
  exact ⟨k _ (by simp) _ h.obj,⟨ka,f (by simp) ea,da⟩,⟨kj,f (by simp) ej,dj⟩⟩
theorem MatAt.sepA {CM:Addr} {H:Hp} {M:MatAd} {A B:RecAd} {f g:Nat→Option Nat} {W:List Nat} (h:MatAt CM H M A B f g W):∀ x∈[A.p,A.ag,A.jo],x≠M.pa∧x≠M.ta∧x≠M.wa:=fun x hx=>h.sep x (by simp at hx ⊢;rcases hx with z | z | z <;> simp [z])
theorem MatAt.sepB {CM:Addr} {H:Hp} {M:MatAd} {A B:RecAd} {f g:Nat→Option Nat} {W:List Nat} (h:MatAt CM H M A B f g W):∀ x∈[B.p,B.ag,B.jo],x≠M.pa∧x≠M.ta∧x≠M.wa:=fun x hx=>h.sep x (by simp at hx ⊢;rcases hx with z | z | z <;> simp [z])
section
variable {P:Program} {w:World} {K:PySem.W.Frag} {mg:Str→Option Value} {base:Heap} {C CR CM:Addr}
def spIsPort:Sp:=fun vs H Q _=>∃ (n:Nat),vs=[nV n]∧Q (.bl (decide (n<256))) H
theorem sc_is_port:FnScope ["point"] ["point"] (defScope s_is_port):=⟨rfl,rfl,rfl,by decide +kernel,rfl,by decide +kernel,by decide +kernel⟩
theorem ok_is_port {f:Addr} {fd:FuncData} (F:Fun K "is_port" "is_port" s_is_port f fd) (T:Txt K mg C CR):FnOk P w K mg base CX0 1 f fd ["point"] spIsPort:=by
  refine F.ok sc_is_port (fun vs H Q E h=>?_) (fun cdv A0 outer s H vs Q E hr h=>?_)
  · obtain ⟨n,rfl,_⟩:=h
    rfl
  · obtain ⟨n,rfl,k⟩:=h
    refine ⟨_,(pss_one (ps_ret (pe_cmpR op_lt (pv 0) (pe_glV rfl T.c_FIRST_NAME) (nomark _)))),?_⟩
    refine ⟨_,rfl,_,_,rfl,rfl,qe k (vbl (decide_eq_decide.mpr (by omega)))⟩
theorem told_lt {r:Nets.Rec} (ok:RecOk r) (x:Nat):(∃ y,r.at_ x=some y∧y<272∧Nets.told (r.at_ x)=y)∨(r.at_ x=none∧Nets.told (r.at_ x)=999):=by
  cases e:r.at_ x with
  | none=>exact .inr ⟨rfl,rfl⟩
  | some y=>exact .inl ⟨y,rfl,ok.port_lt (ok.linkOk _ _ e).2.1,rfl⟩
def spNamesFit (C:Addr):Sp:=fun vs H Q _=>∃ (A B:RecAd) (r q:Nets.Rec),vs=[.ref A.p,.ref B.p]∧NetRd C H A r∧NetRd C H B q∧RecOk r∧RecOk q∧(NamesFit r q→Q (.bl true) H)∧(¬ NamesFit r q→Q (.bl false) H)
theorem nfit_iff {r q:Nets.Rec} (okr:RecOk r) (okq:RecOk q) (x y:Nat):nfit (r.at_ x) (q.at_ y)↔(Nets.told (r.at_ x)=Nets.told (q.at_ y)∨(Nets.told (r.at_ x)<256∧Nets.told (q.at_ y)<256)):=by
  unfold nfit
  rcases told_lt okr x with ⟨u,u1,u2,u3⟩ | ⟨u1,u3⟩
  · rcases told_lt okq y with ⟨v,v1,v2,v3⟩ | ⟨v1,v3⟩
    · rw [u3,v3,u1,v1]
      constructor
      · rintro (e | ⟨x',y',e1,e2,e3,e4⟩)
        · exact .inl (Option.some.inj e)
        · cases e1;cases e2;exact .inr ⟨e3,e4⟩
      · rintro (e | e)
        · exact .inl (by rw [e])
        · exact .inr ⟨u,v,rfl,rfl,e.1,e.2⟩
    · rw [u3,v3,u1,v1]
      constructor
      · rintro (e | ⟨x',y',e1,e2,e3,e4⟩)
        · cases e
        · cases e2
      · rintro (e | e) <;> omega
  · rcases told_lt okq y with ⟨v,v1,v2,v3⟩ | ⟨v1,v3⟩
    · rw [u3,v3,u1,v1]
      constructor
      · rintro (e | ⟨x',y',e1,e2,e3,e4⟩)
        · cases e
        · cases e1
      · rintro (e | e) <;> omega
    · rw [u3,v3,u1,v1]
      exact ⟨fun _=>.inl rfl,fun _=>.inl rfl⟩
theorem sc_names_fit:FnScope ["left", "right", "name", "x", "y"] ["left", "right"] (defScope s_names_fit):=⟨rfl,rfl,rfl,by decide +kernel,rfl,by decide +kernel,by decide +kernel⟩
theorem ok_names_fit {f:Addr} {fd:FuncData} (F:Fun K "names_fit" "names_fit" s_names_fit f fd) (T:Txt K mg C CR) (D_joined_to:Df P w K mg base "joined_to" ["record", "point"] 1 (spJoined C)) (D_is_port:Df P w K mg base "is_port" ["point"] 1 spIsPort):FnOk P w K mg base CX0 2 f fd ["left", "right"] (spNamesFit C):=by
  refine F.ok sc_names_fit (fun vs H Q E h=>?_) (fun cdv A0 outer s H vs Q E hr h=>?_)
  · obtain ⟨A,B,r,q,rfl,_⟩:=h
    rfl
  · obtain ⟨A,B,r,q,rfl,hA,hB,okr,okq,k1,k2⟩:=h
    have nd:=sc_names_fit.nd
    refine ⟨_,(pss_cons (ps_for PassesOwn.never rfl (pi_range2 rfl T.b_range (pa_cons (pe_glV rfl T.c_FIRST_NAME) (pa_cons (pe_op op_add (pe_glV rfl T.c_FIRST_NAME) (pe_glV rfl T.c_NAME_COUNT)) pa_nil))) (pg_name (i:=2) nd rfl (Or.inl rfl)) (pss_cons (ps_set (i:=3) nd rfl (Or.inl rfl) (pe_callD D_joined_to (hr.mono (by decide)) rfl (pa_cons (pv 0) (pa_cons (pv 2) pa_nil)))) (pss_cons (ps_set (i:=4) nd rfl (Or.inl rfl) (pe_callD D_joined_to (hr.mono (by decide)) rfl (pa_cons (pv 1) (pa_cons (pv 2) pa_nil)))) (pss_one (ps_if (PW.pt (pw_and (pt_cmpR op_ne (pv 3) (pv 4) (nomark _)) (pw_and1 (pt_not (PW.pt (pw_and (pt_val (pe_callD D_is_port (hr.mono (by decide)) rfl (pa_cons (pv 3) pa_nil))) (pw_and1 (pt_val (pe_callD D_is_port (hr.mono (by decide)) rfl (pa_cons (pv 4) pa_nil)))))))))) (pss_one (ps_ret pe_bl)) pss_nil))))) (pss_one (ps_ret pe_bl))),?_⟩
    refine ⟨_,_,rfl,rfl,256,272,rfl,⟨by decide,by decide,by decide,by decide⟩,
      for_range (lo:=256) (n:=((272:Int) - 256).toNat) (fun j σ H'=>H'=H∧(∃ x y z,σ=[some (.ref A.p),some (.ref B.p),x,y,z])∧∀ n,n<j→nfit (r.at_ (256+n)) (q.at_ (256+n)))
      ⟨rfl,⟨_,_,_,rfl⟩,fun n hn=>absurd hn (by omega)⟩ ?_ ?_⟩
    · rintro j σ H' hj ⟨rfl,⟨x,y,z,rfl⟩,hall⟩
      have hj16:j<16:=hj
      have ni:=nfit_iff okr okq (256+j) (256+j)
      have next:nfit (r.at_ (256+j)) (q.at_ (256+j))→∀ n,n<j+1→nfit (r.at_ (256+n)) (q.at_ (256+n)):=fun h n hn=>by
        by_cases e:n=j
        · rw [e];exact h
        · exact hall n (by omega)
      refine ⟨_,rfl,_,rfl,A,r,256+j,v2 (z:=(256:Int)+(j:Int)) (by omega),hA,?_⟩
      refine ⟨_,rfl,_,rfl,B,q,256+j,v2 (z:=(256:Int)+(j:Int)) (by omega),hB,?_⟩
      refine ⟨_,rfl,_,rfl,rfl,_,rfl,ite2 (fun c=>?_) (fun c=>?_)⟩
      · have c:¬ nV (Nets.told (r.at_ (256+j)))=nV (Nets.told (q.at_ (256+j))):=by simpa using c
        have c:Nets.told (r.at_ (256+j))≠Nets.told (q.at_ (256+j)):=fun z=>c (by rw [z])
        refine ⟨_,rfl,_,rfl,_,rfl,ite2 (fun c1=>?_) (fun c1=>?_)⟩
        · have c1:Nets.told (r.at_ (256+j))<256:=of_decide_eq_true c1
          refine ⟨_,rfl,_,rfl,_,rfl,ite2 (fun c2=>?_) (fun c2=>?_)⟩
          · have c2:¬ Nets.told (q.at_ (256+j))<256:=by simpa using c2
            exact k2 fun hn=>by
              rcases ni.mp (hn j hj16) with z | z
              · exact c z
              · exact c2 z.2
          · have c2:Nets.told (q.at_ (256+j))<256:=by simpa using c2
            exact ⟨rfl,⟨_,_,_,rfl⟩,next (ni.mpr (.inr ⟨c1,c2⟩))⟩
        · have c1:¬ Nets.told (r.at_ (256+j))<256:=fun z=>c1 (decide_eq_true z)
          exact iteT (k2 fun hn=>by
            rcases ni.mp (hn j hj16) with z | z
            · exact c z
            · exact c1 z.1)
      · have c:nV (Nets.told (r.at_ (256+j)))=nV (Nets.told (q.at_ (256+j))):=by simpa using c
        exact iteF ⟨rfl,⟨_,_,_,rfl⟩,next (ni.mpr (.inl (nV_eq.mp c)))⟩
    · rintro σ H' ⟨rfl,⟨x,y,z,rfl⟩,hall⟩
      exact k1 fun n hn=>hall n hn
def spMatInit (CM:Addr):Sp:=fun vs H Q _=>∃ (p dx:Addr) (v1 v2:V),vs=[.ref p,v1,v2]∧H p=some (.ins CM dx []) ∧
  ∀ (H' : Hp) (pa ta wa:Addr),H' p=some (.ins CM dx [("left",v1),("right",v2),("partners",.ref pa),("taken",.ref ta),("waiting",.ref wa)])→H' pa=some (.dK [])→H' ta=some (.dK [])→H' wa=some (.lst [])→pa≠ta→H pa=none→H ta=none→H wa=none→(∀ b o,H b=some o→b≠p→H' b=some o)→Q .non H'
theorem sc_Matching___init__:FnScope ["self", "left", "right"] ["self", "left", "right"] (defScope s_Matching___init__):=⟨rfl,rfl,rfl,by decide +kernel,rfl,by decide +kernel,by decide +kernel⟩
theorem ok_mat_init {f:Addr} {fd:FuncData} (F:Fun K "__init__" "Matching.__init__" s_Matching___init__ f fd) (TM:TxtM K CM):FnOk P w K mg base CX0 1 f fd ["self", "left", "right"] (spMatInit CM):=by
  refine F.ok sc_Matching___init__ (fun vs H Q E h=>?_) (fun cdv A0 outer s H vs Q E hr h=>?_)
  · obtain ⟨p,dx,v1,v2,rfl,_⟩:=h
    rfl
  · obtain ⟨p,dx,v1,v2,rfl,hp,k⟩:=h
    refine ⟨_,(pss_cons (ps_fld (pv 0) (pv 1) rfl) (pss_cons (ps_fld (pv 0) (pv 2) rfl) (pss_cons (ps_fld (pv 0) pe_dnewK rfl) (pss_cons (ps_fld (pv 0) pe_dnewK rfl) (pss_one (ps_fld (pv 0) (pe_lst pa_nil) rfl)))))),?_⟩
    refine ⟨_,rfl,_,rfl,p,CM,dx,_,rfl,hp,TM.cl,TM.nLeft,(by show 0<1000;decide),?_⟩
    refine ⟨_,rfl,_,rfl,p,CM,dx,_,rfl,upd_same,TM.cl,TM.nRight,(by show 1<1000;decide),?_⟩
    intro pa hpa
    have a1:=upd_none hpa
    have a2:=upd_none a1.1
    refine ⟨_,rfl,p,CM,dx,_,rfl,(by rw [upd_ne a1.2.symm];exact upd_same),TM.cl,TM.nPartners,(by show 2<1000;decide),?_⟩
    intro ta hta
    have b1:=upd_none hta
    have b2:=upd_none b1.1
    have b3:=upd_none b2.1
    have b4:=upd_none b3.1
    refine ⟨_,rfl,p,CM,dx,_,rfl,(by rw [upd_ne b1.2.symm];exact upd_same),TM.cl,TM.nTaken,(by show 3<1000;decide),?_⟩
    refine ⟨Nat.zero_le _,fun wa hwa=>?_⟩
    have c1:=upd_none hwa
    have c2:=upd_none c1.1
    have c3:=upd_none c2.1
    have c4:=upd_none c3.1
    have c5:=upd_none c4.1
    have c6:=upd_none c5.1
    refine ⟨_,rfl,p,CM,dx,_,rfl,(by rw [upd_ne c1.2.symm];exact upd_same),TM.cl,TM.nWaiting,(by show 4<1000;decide),?_⟩
    refine k _ pa ta wa upd_same ?_ ?_ ?_ b2.2.symm a2.1 b4.1 c6.1 fun b o e hb=>?_
    · rw [upd_ne a1.2,upd_ne c4.2.symm,upd_ne a1.2,upd_ne b2.2.symm,upd_ne a1.2,upd_same]
    · rw [upd_ne b1.2,upd_ne c2.2.symm,upd_ne b1.2,upd_same]
    · rw [upd_ne c1.2,upd_same]
    · rw [upd_ne hb,upd_ne (ne_of_none e c6.1),upd_ne hb,upd_ne (ne_of_none e b4.1),upd_ne hb,upd_ne (ne_of_none e a2.1),upd_ne hb,upd_ne hb]
      exact e
def spMatchAgents (C CM:Addr):Sp:=fun vs H Q _=>∃ (M:MatAd) (A B:RecAd) (r q:Nets.Rec) (f g:Nat→Option Nat) (W:List Nat) (a b s t:Nat),vs=[.ref M.m,nV a,nV b]∧MatAt CM H M A B f g W∧NetRd C H A r∧NetRd C H B q∧r.symAt a=some s∧q.symAt b=some t∧a<64∧b<64 ∧
  (ma r q f g a b=none→Q (.bl false) H)∧(ma r q f g a b=some false→Q (.bl true) H)∧(ma r q f g a b=some true→∀ H',FrameM H H' M→MatAt CM H' M A B (fAdd f a b) (fAdd g b a) (W++[a])→Q (.bl true) H')
theorem sc_match_agents:FnScope ["matching", "agent", "other"] ["matching", "agent", "other"] (defScope s_match_agents):=⟨rfl,rfl,rfl,by decide +kernel,rfl,by decide +kernel,by decide +kernel⟩
theorem ok_match_agents {f:Addr} {fd:FuncData} (F:Fun K "match_agents" "match_agents" s_match_agents f fd) (T:Txt K mg C CR) (TM:TxtM K CM):FnOk P w K mg base CX0 1 f fd ["matching", "agent", "other"] (spMatchAgents C CM):=by
  refine F.ok sc_match_agents (fun vs H Q E h=>?_) (fun cdv A0 outer s H vs Q E hr h=>?_)
  · obtain ⟨M,A,B,r,q,f,g,W,a,b,s,t,rfl,_⟩:=h
    rfl
  · obtain ⟨M,A,B,r,q,f,g,W,a,b,s,t,rfl,hM,hA,hB,hs,ht,a64,b64,k1,k2,k3⟩:=h
    have nd:=sc_match_agents.nd
    have hu:=hu_of hr
    obtain ⟨kvp,hpa,dpa⟩:=hM.pa
    obtain ⟨kvt,hta,dta⟩:=hM.ta
    refine ⟨_,(pss_cons (ps_if (PW.pt (pw_or (pt_cmp (pc_din hu (pv 1) (pe_fld (pv 0) rfl))) (pw_or1 (pt_cmp (pc_din hu (pv 2) (pe_fld (pv 0) rfl)))))) (pss_one (ps_ret (pe_cmpR op_eq (pe_dget1 hu (pe_fld (pv 0) rfl) (pv 1) ⟨rfl,rfl,rfl,rfl⟩) (pv 2) (nomark _)))) pss_nil) (pss_cons (ps_if (pt_cmpR op_ne (pe_dget hu (pe_fld (pe_fld (pv 0) rfl) rfl) (pv 1) (fun _ _=>rfl)) (pe_dget hu (pe_fld (pe_fld (pv 0) rfl) rfl) (pv 2) (fun _ _=>rfl)) (nomark _)) (pss_one (ps_ret pe_bl)) pss_nil) (pss_cons (ps_dput hu (pe_fld (pv 0) rfl) (pv 1) (pv 2) rfl) (pss_cons (ps_dput hu (pe_fld (pv 0) rfl) (pv 2) pe_bl rfl) (pss_cons (ps_expr (pe_bm PySem.F.plainAttrs_list PySem.F.slot_list_append PySem.F.type_list_append mt_append (pe_fld (pv 0) rfl) (pa_cons (pv 1) pa_nil))) (pss_one (ps_ret pe_bl))))))),?_⟩
    refine ⟨_,rfl,_,rfl,M.m,CM,M.dm,_,_,rfl,hM.obj,TM.cl,TM.nPartners,matF_partners M A B,M.pa,_,rfl,DGet.k (k:=Sum.inl (a:Int)) hpa,_,rfl,?_⟩
    rw [dpa.val]
    have gpa:DGet H M.pa (nV a) ((f a).map nV):=by
      have z:=DGet.k (k:=Sum.inl (a:Int)) hpa
      rw [dpa.val] at z
      exact z
    cases hf:f a with
    | some c =>
      rw [hf] at gpa
      refine iteT (iteT ⟨_,rfl,M.m,CM,M.dm,_,_,rfl,hM.obj,TM.cl,TM.nPartners,matF_partners M A B,M.pa,rfl,.inl ⟨kvp,.inl hpa⟩,_,rfl,_,gpa,_,rfl,rfl,?_⟩)
      by_cases e:c=b
      · have em:ma r q f g a b=some false:=by
          unfold ma
          rw [hf]
          exact if_pos e
        refine qe (k2 em) (vbl ?_)
        rw [e]
        exact (decide_eq_true rfl).symm
      · have em:ma r q f g a b=none:=by
          unfold ma
          rw [hf]
          exact if_neg e
        refine qe (k1 em) (vbl ?_)
        exact (decide_eq_false fun z=>e (nV_eq.mp z)).symm
    | none =>
      rw [hf] at gpa
      refine iteF ⟨_,rfl,_,rfl,M.m,CM,M.dm,_,_,rfl,hM.obj,TM.cl,TM.nTaken,matF_taken M A B,M.ta,_,rfl,DGet.k (k:=Sum.inl (b:Int)) hta,_,rfl,?_⟩
      rw [dta.val]
      cases hg:g b with
      | some c =>
        have em:ma r q f g a b=none:=by
          unfold ma
          rw [hf,hg]
          rfl
        have e2:tkV g b=some (V.bl true):=by unfold tkV;rw [hg];rfl
        rw [e2]
        refine iteT ⟨_,rfl,M.m,CM,M.dm,_,_,rfl,hM.obj,TM.cl,TM.nPartners,matF_partners M A B,M.pa,rfl,.inl ⟨kvp,.inl hpa⟩,_,rfl,_,gpa,_,rfl,rfl,?_⟩
        exact qe (k1 em) (vbl (decide_eq_false fun z=>(by cases z)).symm)
      | none =>
        have e2:tkV g b=none:=by unfold tkV;rw [hg];rfl
        rw [e2]
        have ga:=hA.getAg a
        rw [hs] at ga
        have gb:=hB.getAg b
        rw [ht] at gb
        refine iteF ⟨_,rfl,M.m,CM,M.dm,_,_,rfl,hM.obj,TM.cl,TM.nLeft,matF_left M A B,A.p,C,A.dx,_,_,rfl,hA.obj,T.cl,T.nAgents,recF_agents A,_,rfl,A.ag,nV s,rfl,ga,
          _,rfl,M.m,CM,M.dm,_,_,rfl,hM.obj,TM.cl,TM.nRight,matF_right M A B,B.p,C,B.dx,_,_,rfl,hB.obj,T.cl,T.nAgents,recF_agents B,_,rfl,B.ag,nV t,rfl,gb,rfl,_,rfl,ite2 (fun c=>?_) (fun c=>?_)⟩
        · have c:¬ nV s=nV t:=by simpa using c
          have em:ma r q f g a b=none:=by
            unfold ma
            rw [hf,hg,hs,ht]
            show (if some s=some t then some true else none)=none
            rw [if_neg (fun z=>c (by cases z;rfl))]
          exact k1 em
        · have c:nV s=nV t:=by simpa using c
          have c:s=t:=nV_eq.mp c
          have em:ma r q f g a b=some true:=by
            unfold ma
            rw [hf,hg,hs,ht,c]
            exact if_pos rfl
          have lp:=dpa.len_le (B:=64) hM.fl
          have lt:kvt.length≤64:=by
            have z:DictIs (kvt.map fun p=>(p.1,nV 0)) fun b=>(g b).map fun _=>0:=by
              refine ⟨by rw [List.map_map];exact dta.nd,fun n=>?_,fun k hk=>dta.key k (by rw [List.map_map] at hk;exact hk)⟩
              have e:∀ (l:List (Key × V)) (k:Key),valV (l.map fun p=>(p.1,nV 0)) k=(valV l k).map fun _=>nV 0:=by
                intro l k
                induction l with
                | nil=>rfl
                | cons p l ih =>
                  rw [List.map_cons]
                  by_cases h:p.1=k
                  · rw [valV_pos (p:=(p.1,nV 0)) h,valV_pos h];rfl
                  · rw [valV_neg (p:=(p.1,nV 0)) h,valV_neg h,ih]
              rw [e,dta.val]
              unfold tkV
              cases g n <;> rfl
            have y:=z.len_le (B:=64) fun n hn=>hM.gl n (by cases e:g n with | none=>rw [e] at hn;cases hn | some v=>rfl)
            rw [List.length_map] at y
            exact y
          have n1:M.m≠M.pa:=ne_of hM.obj hpa (by intro z;cases z)
          have n2:M.m≠M.ta:=ne_of hM.obj hta (by intro z;cases z)
          have n3:M.wa≠M.pa:=ne_of hM.wa hpa (by intro z;cases z)
          have n4:M.wa≠M.ta:=ne_of hM.wa hta (by intro z;cases z)
          have n5:M.m≠M.wa:=ne_of hM.obj hM.wa (by intro z;cases z)
          have wl:=hM.wl
          refine ⟨_,rfl,_,rfl,M.m,CM,M.dm,_,_,rfl,hM.obj,TM.cl,TM.nPartners,matF_partners M A B,_,rfl,M.pa,_,rfl,DPut.k (k:=Sum.inl (a:Int)) hpa (small1000 (by omega)),?_⟩
          refine ⟨_,rfl,M.m,CM,M.dm,_,_,rfl,(by rw [upd_ne n1];exact hM.obj),TM.cl,TM.nTaken,matF_taken M A B,_,rfl,M.ta,_,rfl,DPut.k (k:=Sum.inl (b:Int)) (kvs:=kvt) (by rw [upd_ne hM.pt.symm];exact hta) (small1000 (by omega)),?_⟩
          refine ⟨_,rfl,M.m,CM,M.dm,_,_,rfl,(by rw [upd_ne n2,upd_ne n1];exact hM.obj),TM.cl,TM.nWaiting,matF_waiting M A B,.inl ⟨rfl,nats W,SqL.of (by rw [upd_ne n4,upd_ne n3];exact hM.wa)⟩,_,rfl,M.wa,nats W,_,rfl,rfl,(by rw [upd_ne n4,upd_ne n3];exact hM.wa),(by rw [List.length_map];exact small1000 (by omega)),?_⟩
          refine k3 em _ (fun c o e m1 m2 m3=>by rw [upd_ne m3,upd_ne m2,upd_ne m1];exact e) ⟨?_,⟨_,?_,dpa.putA a b⟩,⟨_,?_,(dta.put b (.bl true)).congr fun n=>?_⟩,?_,hM.pt,hM.sep,fun x hx=>?_,fun x hx=>?_,?_⟩
          · rw [upd_ne n5,upd_ne n2,upd_ne n1];exact hM.obj
          · rw [upd_ne n3.symm,upd_ne hM.pt];exact upd_same
          · rw [upd_ne n4.symm];exact upd_same
          · unfold tkV fAdd
            by_cases e:n=b
            · rw [if_pos e,if_pos e];rfl
            · rw [if_neg e,if_neg e]
          · rw [upd_same,snocV W a rfl]
          · unfold fAdd at hx
            by_cases e:x=a
            · omega
            · rw [if_neg e] at hx;exact hM.fl x hx
          · unfold fAdd at hx
            by_cases e:x=b
            · omega
            · rw [if_neg e] at hx;exact hM.gl x hx
          · have z:=undom_add (f:=f) (b:=b) hf a64
            rw [List.length_append,List.length_singleton]
            omega
def okU (r:Nets.Rec) (u:Option Nat):Prop:=∀ x,u=some x→x<272∧(x<256→∃ s,r.symAt (x / 4)=some s)
def spMatchPoints (C CM:Addr):Sp:=fun vs H Q _=>∃ (M:MatAd) (A B:RecAd) (r q:Nets.Rec) (f g:Nat→Option Nat) (W:List Nat) (u v:Option Nat),vs=[.ref M.m,nV (Nets.told u),nV (Nets.told v)]∧MatAt CM H M A B f g W∧NetRd C H A r∧NetRd C H B q∧okU r u∧okU q v ∧
  (mpR r q f g u v=none→Q (.bl false) H)∧(mpR r q f g u v=some none→Q (.bl true) H)∧(∀ a b,mpR r q f g u v=some (some (a,b))→∀ H',FrameM H H' M→MatAt CM H' M A B (fAdd f a b) (fAdd g b a) (W++[a])→Q (.bl true) H')
theorem sc_match_points:FnScope ["matching", "x", "y"] ["matching", "x", "y"] (defScope s_match_points):=⟨rfl,rfl,rfl,by decide +kernel,rfl,by decide +kernel,by decide +kernel⟩
theorem ok_match_points {f:Addr} {fd:FuncData} (F:Fun K "match_points" "match_points" s_match_points f fd) (T:Txt K mg C CR) (D_is_port:Df P w K mg base "is_port" ["point"] 1 spIsPort) (D_match_agents:Df P w K mg base "match_agents" ["matching", "agent", "other"] 1 (spMatchAgents C CM)):FnOk P w K mg base CX0 2 f fd ["matching", "x", "y"] (spMatchPoints C CM):=by
  refine F.ok sc_match_points (fun vs H Q E h=>?_) (fun cdv A0 outer s H vs Q E hr h=>?_)
  · obtain ⟨M,A,B,r,q,f,g,W,u,v,rfl,_⟩:=h
    rfl
  · obtain ⟨M,A,B,r,q,f,g,W,u,v,rfl,hM,hA,hB,hu',hv',k1,k2,k3⟩:=h
    have nd:=sc_match_points.nd
    have np:¬ (Nets.told u<256∧Nets.told v<256)→Q (.bl (decide (nV (Nets.told u)=nV (Nets.told v)))) H:=fun hn=>by
      have ev:decide (nV (Nets.told u)=nV (Nets.told v))=decide (Nets.told u=Nets.told v):=decide_eq_decide.mpr nV_eq
      rw [ev]
      cases u with
      | none =>
        cases v with
        | none=>exact k2 rfl
        | some y =>
          have:=(hv' y rfl).1
          rw [decide_eq_false (show ¬ Nets.told none=Nets.told (some y) from fun z=>by have z:999=y:=z;omega)]
          exact k1 rfl
      | some x =>
        have:=(hu' x rfl).1
        cases v with
        | none =>
          rw [decide_eq_false (show ¬ Nets.told (some x)=Nets.told none from fun z=>by have z:x=999:=z;omega)]
          exact k1 rfl
        | some y =>
          have hn:¬ (x<256∧y<256):=hn
          have em:mpR r q f g (some x) (some y)=if x=y then some none else none:=if_neg hn
          by_cases e:x=y
          · rw [if_pos e] at em
            rw [decide_eq_true (show Nets.told (some x)=Nets.told (some y) from e)]
            exact k2 em
          · rw [if_neg e] at em
            rw [decide_eq_false (show ¬ Nets.told (some x)=Nets.told (some y) from e)]
            exact k1 em
    refine ⟨_,(pss_cons (ps_if (PW.pt (pw_or (pt_not (pt_val (pe_callD D_is_port (hr.mono (by decide)) rfl (pa_cons (pv 1) pa_nil)))) (pw_or1 (pt_not (pt_val (pe_callD D_is_port (hr.mono (by decide)) rfl (pa_cons (pv 2) pa_nil))))))) (pss_one (ps_ret (pe_cmpR op_eq (pv 1) (pv 2) (nomark _)))) pss_nil) (pss_cons (ps_if (pt_cmpR op_ne (pe_op op_mod (pv 1) (pe_glV rfl T.c_PORTS_APART)) (pe_op op_mod (pv 2) (pe_glV rfl T.c_PORTS_APART)) (nomark _)) (pss_one (ps_ret pe_bl)) pss_nil) (pss_one (ps_ret (pe_callD D_match_agents (hr.mono (by decide)) rfl (pa_cons (pv 0) (pa_cons (pe_op op_fdiv (pv 1) (pe_glV rfl T.c_PORTS_APART)) (pa_cons (pe_op op_fdiv (pv 2) (pe_glV rfl T.c_PORTS_APART)) pa_nil)))))))),?_⟩
    refine ⟨_,rfl,_,rfl,_,rfl,ite2 (fun c1=>?_) (fun c1=>?_)⟩
    · have c1:¬ Nets.told u<256:=by simpa using c1
      exact iteT ⟨_,rfl,_,rfl,rfl,np fun z=>c1 z.1⟩
    · have c1:Nets.told u<256:=by simpa using c1
      refine ⟨_,rfl,_,rfl,_,rfl,ite2 (fun c2=>?_) (fun c2=>?_)⟩
      · have c2:¬ Nets.told v<256:=by simpa using c2
        exact ⟨_,rfl,_,rfl,rfl,np fun z=>c2 z.2⟩
      · have c2:Nets.told v<256:=by simpa using c2
        obtain ⟨x,rfl⟩ : ∃ x,u=some x:=by
          cases u with
          | none=>exact absurd c1 (by show ¬ (999<256);omega)
          | some x=>exact ⟨x,rfl⟩
        obtain ⟨y,rfl⟩ : ∃ y,v=some y:=by
          cases v with
          | none=>exact absurd c2 (by show ¬ (999<256);omega)
          | some x=>exact ⟨x,rfl⟩
        have c1:x<256:=c1
        have c2:y<256:=c2
        have em:=mpR_port (r:=r) (q:=q) (f:=f) (g:=g) c1 c2
        obtain ⟨s,hs⟩:=(hu' x rfl).2 c1
        obtain ⟨t,ht⟩:=(hv' y rfl).2 c2
        refine ⟨_,rfl,_,_,rfl,rfl,(by show (0:Int)<4;decide),_,rfl,_,_,rfl,rfl,(by show (0:Int)<4;decide),rfl,_,rfl,ite2 (fun c3=>?_) (fun c3=>?_)⟩
        · have c3:¬ V.int ((Nets.told (some x):Int)%4)=V.int ((Nets.told (some y):Int)%4):=by simpa using c3
          have c3:¬ V.int ((x:Int)%4)=V.int ((y:Int)%4):=c3
          rw [if_neg (fun z=>c3 (vint (by omega)))] at em
          exact k1 em
        · have c3:V.int ((Nets.told (some x):Int)%4)=V.int ((Nets.told (some y):Int)%4):=by simpa using c3
          have c3:V.int ((x:Int)%4)=V.int ((y:Int)%4):=c3
          have c3:x%4=y%4:=by injection c3 with c3;omega
          rw [if_pos c3] at em
          refine ⟨_,rfl,_,rfl,_,_,rfl,rfl,⟨by decide,by decide⟩,_,rfl,_,_,rfl,rfl,⟨by decide,by decide⟩,M,A,B,r,q,f,g,W,x / 4,y / 4,s,t,rfl,hM,hA,hB,hs,ht,by omega,by omega,fun e=>?_,fun e=>?_,fun e=>?_⟩
          · rw [e] at em;exact k1 em
          · rw [e] at em;exact k2 em
          · rw [e] at em;exact k3 _ _ em
def spMatchWaiting (C CM:Addr):Sp:=fun vs H Q _=>∃ (M:MatAd) (A B:RecAd) (r q:Nets.Rec) (a0 b0:Nat) (f g:Nat→Option Nat) (W:List Nat),vs=[.ref M.m]∧MatAt CM H M A B f g W∧NetRd C H A r∧NetRd C H B q∧RecOk r∧RecOk q∧J r q a0 b0 f g (fun a _=>a∈W)∧(∀ a∈W,∃ b,f a=some b) ∧
  (∀ H' f' g',FrameM H H' M→MatAt CM H' M A B f' g' []→J r q a0 b0 f' g' (fun _ _=>False)→(∀ a b,f a=some b→f' a=some b)→Q (.bl true) H')∧(∀ H',FrameM H H' M→(∀ φ ψ,Iso r q φ ψ→φ a0≠b0)→Q (.bl false) H')
theorem sc_match_waiting:FnScope ["matching", "agent", "other", "j", "x", "y"] ["matching"] (defScope s_match_waiting):=⟨rfl,rfl,rfl,by decide +kernel,rfl,by decide +kernel,by decide +kernel⟩
theorem ok_match_waiting {f:Addr} {fd:FuncData} (F:Fun K "match_waiting" "match_waiting" s_match_waiting f fd) (T:Txt K mg C CR) (TM:TxtM K CM) (D_joined_to:Df P w K mg base "joined_to" ["record", "point"] 1 (spJoined C)) (D_match_points:Df P w K mg base "match_points" ["matching", "x", "y"] 2 (spMatchPoints C CM)):FnOk P w K mg base CX0 3 f fd ["matching"] (spMatchWaiting C CM):=by
  refine F.ok sc_match_waiting (fun vs H Q E h=>?_) (fun cdv A0 outer s H vs Q E hr h=>?_)
  · obtain ⟨M,A,B,r,q,a0,b0,f,g,W,rfl,_⟩:=h
    rfl
  · obtain ⟨M,A,B,r,q,a0,b0,f0,g0,W0,rfl,hM0,hA0,hB0,okr,okq,j0,hW0,kT,kF⟩:=h
    have nd:=sc_match_waiting.nd
    have hu:=hu_of hr
    refine ⟨_,(pss_cons (ps_while PassesOwn.never (pt_cmpR op_gt (pe_callB call_len_seq (by rfl) T.b_len PySem.boot_len (pa_cons (pe_fld (pv 0) rfl) pa_nil)) pe_int (nomark _)) (pss_cons (ps_set (i:=1) nd rfl (Or.inl rfl) (pe_bm0 PySem.F.plainAttrs_list PySem.F.slot_list_pop PySem.F.type_list_pop mt_pop (pe_fld (pv 0) rfl))) (pss_cons (ps_set (i:=2) nd rfl (Or.inl rfl) (pe_dget hu (pe_fld (pv 0) rfl) (pv 1) (fun _ _=>rfl))) (pss_one (ps_for PassesOwn.never rfl (pi_range1 rfl T.b_range (pa_cons (pe_glV rfl T.c_PORTS_APART) pa_nil)) (pg_name (i:=3) nd rfl (Or.inl rfl)) (pss_cons (ps_set (i:=4) nd rfl (Or.inl rfl) (pe_callD D_joined_to (hr.mono (by decide)) rfl (pa_cons (pe_fld (pv 0) rfl) (pa_cons (pe_op op_add (pe_op op_mul (pe_glV rfl T.c_PORTS_APART) (pv 1)) (pv 3)) pa_nil)))) (pss_cons (ps_set (i:=5) nd rfl (Or.inl rfl) (pe_callD D_joined_to (hr.mono (by decide)) rfl (pa_cons (pe_fld (pv 0) rfl) (pa_cons (pe_op op_add (pe_op op_mul (pe_glV rfl T.c_PORTS_APART) (pv 2)) (pv 3)) pa_nil)))) (pss_one (ps_if (pt_not (pt_val (pe_callD D_match_points (hr.mono (by decide)) rfl (pa_cons (pv 0) (pa_cons (pv 4) (pa_cons (pv 5) pa_nil)))))) (pss_one (ps_ret pe_bl)) pss_nil))))))))) (pss_one (ps_ret pe_bl))),?_⟩
    refine ⟨fun m σ H'=>∃ f g W x1 x2 x3 x4 x5,m=2*undom f+W.length∧MatAt CM H' M A B f g W∧J r q a0 b0 f g (fun a _=>a∈W)∧FrameM H H' M∧(∀ a b,f0 a=some b→f a=some b)∧(∀ a∈W,∃ b,f a=some b)∧σ=[some (.ref M.m),x1,x2,x3,x4,x5],
      ⟨_,f0,g0,W0,none,none,none,none,none,rfl,hM0,j0,FrameM.refl _ _,fun a b h=>h,hW0,rfl⟩,?_⟩
    rintro m σ H' ⟨f,g,W,x1,x2,x3,x4,x5,rfl,hM,jj,fr,hsub,hW,rfl⟩
    refine ⟨_,rfl,M.m,CM,M.dm,_,_,rfl,hM.obj,TM.cl,TM.nWaiting,matF_waiting M A B,M.wa,_,rfl,.inl (SqL.of hM.wa),_,_,rfl,rfl,_,rfl,ite2 (fun c=>?_) (fun c=>?_)⟩
    · have c:(0:Int)<((nats W).length:Int):=of_decide_eq_true c
      rw [List.length_map] at c
      have hne:W≠[]:=by intro z;rw [z] at c;simp at c
      obtain ⟨ini,a,rfl⟩ : ∃ ini p,W=ini++[p]:=⟨W.dropLast,W.getLast hne,(List.dropLast_concat_getLast hne).symm⟩
      obtain ⟨b,hfa⟩:=hW a (by simp)
      obtain ⟨s,s1,s2⟩:=jj.sym a b hfa
      have a64:=okr.sym_lt (a:=a) (by rw [s1];rfl)
      have b64:=okq.sym_lt (a:=b) (by rw [s2];rfl)
      obtain ⟨kvp,hpa,dpa⟩:=hM.pa
      obtain ⟨kvt,hta,dta⟩:=hM.ta
      have n3:M.wa≠M.pa:=ne_of hM.wa hpa (by intro z;cases z)
      have n4:M.wa≠M.ta:=ne_of hM.wa hta (by intro z;cases z)
      have n5:M.m≠M.wa:=ne_of hM.obj hM.wa (by intro z;cases z)
      have wl:=hM.wl
      rw [List.length_append,List.length_singleton] at wl
      have hM1:MatAt CM (upd H' M.wa (.lst (nats ini))) M A B f g ini:=⟨by rw [upd_ne n5];exact hM.obj,⟨kvp,by rw [upd_ne n3.symm];exact hpa,dpa⟩,⟨kvt,by rw [upd_ne n4.symm];exact hta,dta⟩,upd_same,hM.pt,hM.sep,hM.fl,hM.gl,by omega⟩
      have fr1:FrameM H (upd H' M.wa (.lst (nats ini))) M:=fun c o e m1 m2 m3=>by rw [upd_ne m3];exact fr c o e m1 m2 m3
      have el:(nats (ini++[a])).dropLast=nats ini:=by
        rw [nats,List.map_append]
        exact List.dropLast_concat
      refine ⟨fun σ' H''=>∃ f' g' W' x1 x2 x3 x4 x5,2*undom f'+W'.length<2*undom f+(ini++[a]).length∧MatAt CM H'' M A B f' g' W'∧J r q a0 b0 f' g' (fun a _=>a∈W')∧FrameM H H'' M∧(∀ a b,f0 a=some b→f' a=some b)∧(∀ a∈W',∃ b,f' a=some b)∧σ'=[some (.ref M.m),x1,x2,x3,x4,x5],
        fun σ' H'' ⟨f',g',W',x1,x2,x3,x4,x5,h1,h2,h3,h4,h5,h6,h7⟩=>⟨_,h1,f',g',W',x1,x2,x3,x4,x5,rfl,h2,h3,h4,h5,h6,h7⟩,?_⟩
      refine ⟨_,rfl,M.m,CM,M.dm,_,_,rfl,hM.obj,TM.cl,TM.nWaiting,matF_waiting M A B,.inl ⟨rfl,_,SqL.of hM.wa⟩,M.wa,_,nV a,rfl,rfl,hM.wa,?_,?_⟩
      · rw [List.length_map,List.length_append,List.length_singleton,Nat.add_sub_cancel,List.getElem?_map,List.getElem?_append_right (Nat.le_refl _),Nat.sub_self]
        rfl
      rw [el]
      obtain ⟨kvp1,hpa1,dpa1⟩:=hM1.pa
      have gp:=DGet.k (k:=Sum.inl (a:Int)) hpa1
      rw [dpa1.val,hfa] at gp
      refine ⟨_,rfl,M.m,CM,M.dm,_,_,rfl,hM1.obj,TM.cl,TM.nPartners,matF_partners M A B,_,rfl,M.pa,nV b,rfl,gp,?_⟩
      generalize upd H' M.wa (.lst (nats ini))=H1 at *
      refine ⟨4,rfl,by decide,by decide,for_range (n:=4) (fun j σ H2=>∃ f' g' W' x3 x4 x5,2*undom f'+W'.length≤2*undom f+ini.length∧MatAt CM H2 M A B f' g' W'∧J r q a0 b0 f' g' (fun x i=>x∈W'∨(x=a∧j≤i))∧FrameM H H2 M∧(∀ a b,f a=some b→f' a=some b)∧(∀ a∈W',∃ b,f' a=some b)∧σ=[some (.ref M.m),some (nV a),some (nV b),x3,x4,x5])
        ⟨f,g,ini,_,_,_,Nat.le_refl _,hM1,jj.mono fun x i _ hx=>?_,fr1,fun a b h=>h,fun x hx=>hW x (by simp [hx]),rfl⟩ ?_ ?_⟩
      · rcases List.mem_append.mp hx with z | z
        · exact .inl z
        · exact .inr ⟨by simpa using z,Nat.zero_le _⟩
      · rintro j σ H2 hj ⟨f',g',W',y3,y4,y5,hm,hM2,jj2,fr2,hsub2,hW2,rfl⟩
        have hA2:=hA0.fr fr2 hM0.sepA
        have hB2:=hB0.fr fr2 hM0.sepB
        have hfa2:=hsub2 a b hfa
        have e1:(4:Int)*(a:Int)+(0+(j:Int))=((4*a+j:Nat):Int):=by omega
        have e2:(4:Int)*(b:Int)+(0+(j:Int))=((4*b+j:Nat):Int):=by omega
        have ou:∀ {r:Nets.Rec},RecOk r→∀ x,okU r (r.at_ x):=fun ok x y hy=>⟨ok.port_lt (ok.linkOk _ _ hy).2.1,fun h=>ok.to hy h⟩
        refine ⟨_,rfl,M.m,CM,M.dm,_,_,rfl,hM2.obj,TM.cl,TM.nLeft,matF_left M A B,_,rfl,_,_,rfl,rfl,.inl ⟨by decide,by decide⟩,_,rfl,_,_,rfl,rfl,A,r,4*a+j,v2 e1,hA2,?_⟩
        refine ⟨_,rfl,M.m,CM,M.dm,_,_,rfl,hM2.obj,TM.cl,TM.nRight,matF_right M A B,_,rfl,_,_,rfl,rfl,.inl ⟨by decide,by decide⟩,_,rfl,_,_,rfl,rfl,B,q,4*b+j,v2 e2,hB2,?_⟩
        refine ⟨_,rfl,_,rfl,_,rfl,M,A,B,r,q,f',g',W',r.at_ (4*a+j),q.at_ (4*b+j),rfl,hM2,hA2,hB2,ou okr _,ou okq _,fun e=>⟨_,rfl,iteT ?_⟩,fun e=>⟨_,rfl,iteF ?_⟩,fun a' b' e H3 fr3 hM3=>⟨_,rfl,iteF ?_⟩⟩
        · exact kF H2 fr2 fun φ ψ iso=>mp_no okr okq jj2 hfa2 hj e iso
        · refine ⟨f',g',W',_,_,_,hm,hM2,⟨jj2.inv,jj2.sym,fun x y i hx hi hn=>?_,jj2.fit,jj2.ra,jj2.rb⟩,fr2,hsub2,hW2,rfl⟩
          by_cases c:x=a∧i=j
          · rw [c.1,hfa2] at hx
            cases hx
            rw [c.1,c.2]
            exact mp_same e
          · exact jj2.lnk x y i hx hi fun z=>hn (by
              rcases z with z | z
              · exact .inl z
              · exact .inr ⟨z.1,by omega⟩)
        · obtain ⟨q1,q2,q3,q4,q5,q6⟩:=jj2.step okr okq hfa2 hj e
          have un:=undom_add (b:=b') q3 q5
          refine ⟨_,_,_,_,_,_,?_,hM3,⟨q1.inv,q1.sym,fun x y i hx hi hn=>?_,q1.fit,q1.ra,q1.rb⟩,fr2.trans fr3,fun x y hx=>fAdd_up q3 _ _ (hsub2 x y hx),fun x hx=>?_,rfl⟩
          · rw [List.length_append,List.length_singleton]
            omega
          · by_cases c:x=a∧i=j
            · rw [c.1,fAdd_up q3 _ _ hfa2] at hx
              cases hx
              rw [c.1,c.2]
              exact q2
            · refine q1.lnk x y i hx hi fun z=>hn ?_
              rcases z with (z | z) | z
              · exact .inl (List.mem_append_left _ z)
              · exact .inr ⟨z.1,by omega⟩
              · exact .inl (by simp [z])
          · rcases List.mem_append.mp hx with z | z
            · obtain ⟨y,hy⟩:=hW2 x z
              exact ⟨y,fAdd_up q3 _ _ hy⟩
            · have e:x=a':=by simpa using z
              exact ⟨b',by unfold fAdd;rw [if_pos e]⟩
      · rintro σ H2 ⟨f',g',W',y3,y4,y5,hm,hM2,jj2,fr2,hsub2,hW2,rfl⟩
        refine ⟨f',g',W',_,_,_,_,_,?_,hM2,jj2.mono fun x i hi hx=>?_,fr2,fun x y hx=>hsub2 x y (hsub x y hx),hW2,rfl⟩
        · rw [List.length_append,List.length_singleton]
          omega
        · rcases hx with z | z
          · exact z
          · omega
    · have c:¬ (0:Int)<((nats W).length:Int):=fun z=>c (decide_eq_true z)
      rw [List.length_map] at c
      have e:W=[]:=List.length_eq_zero_iff.mp (by omega)
      subst e
      exact (kT H' f g fr hM (jj.mono fun x i _ hx=>absurd hx (by simp)) hsub)
end
theorem NetRd.lockOther {C:Addr} {H:Hp} {A:RecAd} {r:Nets.Rec} {D:Addr} {o:HO} (h:NetRd C H A r) (n1:A.p≠D) (n2:A.ag≠D) (n3:A.jo≠D):NetRd C (upd H D o) A r:=by
  obtain ⟨ka,ea,da⟩:=h.ag
  obtain ⟨kj,ej,dj⟩:=h.jo
  have f:∀ {x:Addr} {u:HO},x≠D→Rd H x u→Rd (upd H D o) x u:=fun {x u} hx z=>by
    unfold Rd
    rw [upd_ne hx]
    exact z
  exact ⟨by rw [upd_ne n1];exact h.obj,⟨ka,f n2 ea,da⟩,⟨kj,f n3 ej,dj⟩⟩
theorem NetRd.lockAg {C:Addr} {H:Hp} {A:RecAd} {r:Nets.Rec} {kvs:List (Key × V)} {od:Obj} (h:NetRd C H A r) (d:DictIs kvs r.symAt) (n1:A.p≠A.ag) (n3:A.jo≠A.ag):NetRd C (upd H A.ag (.frz od (.dK kvs))) A r:=by
  obtain ⟨kj,ej,dj⟩:=h.jo
  refine ⟨by rw [upd_ne n1];exact h.obj,⟨kvs,.inr ⟨od,upd_same⟩,d⟩,⟨kj,?_,dj⟩⟩
  unfold Rd
  rw [upd_ne n3]
  exact ej
theorem rd_there {H:Hp} {x:Addr} {u:HO} (h:Rd H x u):∃ o,H x=some o:=by
  rcases h with h | ⟨_,h⟩
  · exact ⟨_,h⟩
  · exact ⟨_,h⟩
theorem NetRd.there {C:Addr} {H:Hp} {A:RecAd} {r:Nets.Rec} (h:NetRd C H A r):∀ x∈[A.p,A.ag,A.jo],∃ o,H x=some o:=fun x hx=>by
  obtain ⟨ka,ea,da⟩:=h.ag
  obtain ⟨kj,ej,dj⟩:=h.jo
  simp at hx
  rcases hx with rfl | rfl | rfl
  · exact ⟨_,h.obj⟩
  · exact rd_there ea
  · exact rd_there ej
theorem tk_none {g:Nat→Option Nat} {b:Nat} (h:g b=none):tkV g b=none:=by unfold tkV;rw [h];rfl
theorem tk_some {g:Nat→Option Nat} {b c:Nat} (h:g b=some c):tkV g b=some (.bl true):=by unfold tkV;rw [h];rfl
theorem tk_len {kvs:List (Key × V)} {g:Nat→Option Nat} (d:DictV kvs (tkV g)) (h:∀ b,(g b).isSome=true→b<64):kvs.length≤64:=by
  have z:DictIs (kvs.map fun p=>(p.1,nV 0)) fun b=>(g b).map fun _=>0:=by
    refine ⟨by rw [List.map_map];exact d.nd,fun n=>?_,fun k hk=>d.key k (by rw [List.map_map] at hk;exact hk)⟩
    have e:∀ (l:List (Key × V)) (k:Key),valV (l.map fun p=>(p.1,nV 0)) k=(valV l k).map fun _=>nV 0:=by
      intro l k
      induction l with
      | nil=>rfl
      | cons p l ih =>
        rw [List.map_cons]
        by_cases h:p.1=k
        · rw [valV_pos (p:=(p.1,nV 0)) h,valV_pos h];rfl
        · rw [valV_neg (p:=(p.1,nV 0)) h,valV_neg h,ih]
    rw [e,d.val]
    unfold tkV
    cases g n <;> rfl
  have y:=z.len_le (B:=64) fun n hn=>h n (by cases e:g n with | none=>rw [e] at hn;cases hn | some v=>rfl)
  rw [List.length_map] at y
  exact y
section
variable {P:Program} {w:World} {K:PySem.W.Frag} {mg:Str→Option Value} {base:Heap} {C CR CM:Addr}
def spMatchPart (C CM:Addr):Sp:=fun vs H Q _=>∃ (A B:RecAd) (r q:Nets.Rec) (a0 s:Nat) (t:Addr) (kvt kvb:List (Key × V)) (Vv:Nat→Option Nat),vs=[.ref A.p,.ref B.p,nV a0,.ref t]∧NetRd C H A r∧NetRd C H B q∧H B.ag=some (.dK kvb)∧DictIs kvb q.symAt∧RecOk r∧RecOk q∧r.symAt a0=some s∧H t=some (.dK kvt)∧DictV kvt (tkV Vv)∧B.ag∉[A.p,A.ag,A.jo,B.p,B.jo,t] ∧
  (∀ H' M f g b0,Same H H'→MatAt CM H' M A B f g []→J r q a0 b0 f g (fun _ _=>False)→f a0=some b0→Vv b0=none→H M.pa=none→H M.ta=none→Q (.ref M.m) H')∧(∀ H',Same H H'→(∀ φ ψ,Iso r q φ ψ→(Vv (φ a0)).isSome=true)→Q .non H')
theorem sc_match_part:FnScope ["left", "right", "agent", "taken", "other", "matching"] ["left", "right", "agent", "taken"] (defScope s_match_part):=⟨rfl,rfl,rfl,by decide +kernel,rfl,by decide +kernel,by decide +kernel⟩
theorem ok_match_part {f:Addr} {fd:FuncData} (F:Fun K "match_part" "match_part" s_match_part f fd) (T:Txt K mg C CR) (TM:TxtM K CM) (D_Matching:Dm P w K mg base "Matching" CM ["self", "left", "right"] 1 (spMatInit CM)) (D_match_agents:Df P w K mg base "match_agents" ["matching", "agent", "other"] 1 (spMatchAgents C CM)) (D_match_waiting:Df P w K mg base "match_waiting" ["matching"] 3 (spMatchWaiting C CM)):FnOk P w K mg base CX0 4 f fd ["left", "right", "agent", "taken"] (spMatchPart C CM):=by
  refine F.ok sc_match_part (fun vs H Q E h=>?_) (fun cdv A0 outer s H vs Q E hr h=>?_)
  · obtain ⟨A,B,r,q,a0,s,t,kvt,kvb,Vv,rfl,_⟩:=h
    rfl
  · obtain ⟨A,B,r,q,a0,s,t,kvt,kvb,Vv,rfl,hA,hB,hbag,dbag,okr,okq,hs,ht,dt,nin,kS,kN⟩:=h
    have nd:=sc_match_part.nd
    have hu:=hu_of hr
    simp only [List.mem_cons,List.not_mem_nil,or_false,not_or] at nin
    obtain ⟨n1,n2,n3,n4,n5,n6⟩:=nin
    have a64:=okr.sym_lt (a:=a0) (by rw [hs];rfl)
    refine ⟨_,(pss_cons (ps_lock (ps_for PassesOwn.never rfl (pi_keys (pe_fld (pv 1) rfl)) (pg_name (i:=4) nd rfl (Or.inl rfl)) (pss_one (ps_if (pt_cmp (pc_dnotin hu (pv 4) (pv 3))) (pss_cons (ps_set (i:=5) nd rfl (Or.inl rfl) (pe_makeA D_Matching (hr.mono (by decide)) rfl (pa_cons (pv 0) (pa_cons (pv 1) pa_nil)))) (pss_one (ps_if (PW.pt (pw_and (pt_val (pe_callD D_match_agents (hr.mono (by decide)) rfl (pa_cons (pv 5) (pa_cons (pv 2) (pa_cons (pv 4) pa_nil))))) (pw_and1 (pt_val (pe_callD D_match_waiting (hr.mono (by decide)) rfl (pa_cons (pv 5) pa_nil)))))) (pss_one (ps_ret (pv 5))) pss_nil))) pss_nil)))) (pss_one (ps_ret pe_non))),?_⟩
    refine ⟨B.ag,.dK kvb,hbag,True.intro,fun od=>⟨_,rfl,B.p,C,B.dx,_,_,rfl,(by rw [upd_ne (Ne.symm n4)];exact hB.obj),T.cl,T.nAgents,recF_agents B,B.ag,od,rfl,.inl ⟨kvb,upd_same,?_⟩⟩⟩
    have hAl:NetRd C (upd H B.ag (.frz od (.dK kvb))) A r:=hA.lockOther (Ne.symm n1) (Ne.symm n2) (Ne.symm n3)
    have hBl:NetRd C (upd H B.ag (.frz od (.dK kvb))) B q:=hB.lockAg dbag (Ne.symm n4) (Ne.symm n5)
    have htl:(upd H B.ag (.frz od (.dK kvb))) t=some (.dK kvt):=by rw [upd_ne (Ne.symm n6)];exact ht
    have hlB:(upd H B.ag (.frz od (.dK kvb))) B.ag=some (.frz od (.dK kvb)):=upd_same
    have hlo:∀ c,c≠B.ag→(upd H B.ag (.frz od (.dK kvb))) c=H c:=fun c hc=>upd_ne hc
    generalize hHl:upd H B.ag (.frz od (.dK kvb))=Hl at *
    have un:∀ {H' : Hp},Same Hl H'→Same H (upd H' B.ag (.dK kvb)):=fun {H'} s=>unlock_same (od:=od) hbag (by rw [hHl];exact s)
    refine for_keys (fun i σ H'=>Same Hl H'∧(∃ x y,σ=[some (.ref A.p),some (.ref B.p),some (nV a0),some (.ref t),x,y])∧∀ p∈kvb.take i,∀ b:Nat,p.1=.inl (b:Int)→Vv b=none→∀ φ ψ,Iso r q φ ψ→φ a0≠b)
      ⟨Same.refl _,⟨_,_,rfl⟩,fun p hp=>absurd hp (by simp)⟩ (fun i σ H' _ ⟨e,_⟩=>e _ _ hlB) ?_ ?_
    · rintro i ky v σ H' hi ⟨s1,⟨x,y,rfl⟩,hall⟩
      obtain ⟨b,rfl⟩:=dbag.key ky (List.mem_map.mpr ⟨_,List.mem_of_getElem? hi,rfl⟩)
      have hsn:=(dbag.mem b).mp (List.mem_map.mpr ⟨_,List.mem_of_getElem? hi,rfl⟩)
      obtain ⟨sb,hsb⟩:=Option.isSome_iff_exists.mp hsn
      have b64:=okq.sym_lt hsn
      have next:(Vv b=none→∀ φ ψ,Iso r q φ ψ→φ a0≠b)→∀ p∈kvb.take (i+1),∀ b:Nat,p.1=.inl (b:Int)→Vv b=none→∀ φ ψ,Iso r q φ ψ→φ a0≠b:=fun hgood p hp b' e1=>by
        rw [take_snoc hi] at hp
        rcases List.mem_append.mp hp with z | z
        · exact hall p z b' e1
        · have e:p=(.inl (b:Int),v):=by simpa using z
          subst e
          have e3:b'=b:=by
            injection e1 with e1
            omega
          subst e3
          exact hgood
      refine ⟨_,rfl,_,rfl,t,_,rfl,DGet.k (k:=Sum.inl (b:Int)) (s1 _ _ htl),_,rfl,?_⟩
      rw [dt.val]
      cases hv:Vv b with
      | some c =>
        rw [tk_some hv]
        exact iteF ⟨s1,⟨_,_,rfl⟩,next fun z=>by rw [hv] at z;cases z⟩
      | none =>
        rw [tk_none hv]
        have hA1:=hAl.same s1
        have hB1:=hBl.same s1
        refine iteT ⟨_,rfl,_,rfl,fun x dx hx hdx hxd=>⟨x,dx,.ref A.p,.ref B.p,rfl,upd_same,fun H3 pa ta wa o1 o2 o3 o4 o5 o6 o7 o8 fr=>⟨rfl,?_⟩⟩⟩
        have s3:Same H' H3:=Same.made hx hdx fr
        have m6:=(upd_none (upd_none o6).1).1
        have m7:=(upd_none (upd_none o7).1).1
        have m8:=(upd_none (upd_none o8).1).1
        have sep:∀ z∈[A.p,A.ag,A.jo,B.p,B.ag,B.jo],z≠pa∧z≠ta∧z≠wa:=fun z hz=>by
          have ex:∃ o,H' z=some o:=by
            simp only [List.mem_cons,List.not_mem_nil,or_false] at hz
            rcases hz with h | h | h | h | h | h
            · exact hA1.there z (by simp [h])
            · exact hA1.there z (by simp [h])
            · exact hA1.there z (by simp [h])
            · exact hB1.there z (by simp [h])
            · exact hB1.there z (by simp [h])
            · exact hB1.there z (by simp [h])
          obtain ⟨o,e⟩:=ex
          exact ⟨ne_of_none e m6,ne_of_none e m7,ne_of_none e m8⟩
        have dnil:∀ {g:Nat→Option V},(∀ n,g n=none)→DictV [] g:=fun hg=>⟨List.nodup_nil,fun n=>by rw [hg];rfl,fun k hk=>absurd hk (by simp)⟩
        have hM3:MatAt CM H3 ⟨x,dx,pa,ta,wa⟩ A B (fun _=>none) (fun _=>none) []:=⟨o1,⟨[],o2,(dnil (g:=fun _=>none) fun _=>rfl).is fun _=>rfl⟩,⟨[],o3,dnil fun _=>rfl⟩,o4,o5,sep,fun a h=>(by cases h),fun a h=>(by cases h),by
          unfold undom
          have:=List.length_filter_le (fun a:Nat=>((none:Option Nat)).isNone) (List.range 64)
          rw [List.length_range] at this
          simpa using this⟩
        have j0:J r q a0 b (fun _=>none) (fun _=>none) (fun _ _=>False):=J.empty
        have frm:∀ {H4:Hp},FrameM H3 H4 ⟨x,dx,pa,ta,wa⟩→Same Hl H4:=fun {H4} fr4 c o e=>by
          have e1:=s1 _ _ e
          exact fr4 c o (s3 _ _ e1) (ne_of_none e1 m6) (ne_of_none e1 m7) (ne_of_none e1 m8)
        refine ⟨_,rfl,_,rfl,_,rfl,⟨x,dx,pa,ta,wa⟩,A,B,r,q,_,_,[],a0,b,s,sb,rfl,hM3,hA1.same s3,hB1.same s3,hs,hsb,a64,b64,fun e=>⟨_,rfl,iteF (iteF ?_)⟩,fun e=>?_,fun e H4 fr4 hM4=>⟨_,rfl,iteT ?_⟩⟩
        · exact ⟨s1.trans s3,⟨_,_,rfl⟩,next fun _ φ ψ iso z=>ma_no j0 hs e iso z z⟩
        · have z:=ma_false e
          cases z
        · obtain ⟨_,_,esy⟩:=ma_true e
          have j1:=j0.add (a:=a0) (b:=b) rfl rfl hs (by rw [← esy];exact hs) (fun φ ψ _ z=>z) (fun S _ z=>z) (fun S _ z=>z)
          have j2:J r q a0 b (fAdd (fun _=>none) a0 b) (fAdd (fun _=>none) b a0) (fun a _=>a∈([]:List Nat)++[a0]):=j1.mono fun a i _ z=>by
            rcases z with z | z
            · exact z.elim
            · simp [z]
          refine ⟨_,rfl,⟨x,dx,pa,ta,wa⟩,A,B,r,q,a0,b,_,_,_,rfl,hM4,(hA1.same s3).fr fr4 hM3.sepA,(hB1.same s3).fr fr4 hM3.sepB,okr,okq,j2,fun a ha=>⟨b,by
            have e:a=a0:=by simpa using ha
            unfold fAdd
            rw [if_pos e]⟩,fun H5 f5 g5 fr5 hM5 j5 hsub=>⟨_,rfl,iteT ?_⟩,fun H5 fr5 hno=>⟨_,rfl,iteF ?_⟩⟩
          · have s5:=frm (fr4.trans fr5)
            have hB5:=s5 _ _ hlB
            have nB:=sep B.ag (by simp)
            have nx:B.ag≠x:=ne_of_none (s1 _ _ hlB) hx
            refine ⟨_,rfl,hB5,kS _ ⟨x,dx,pa,ta,wa⟩ f5 g5 b (un s5) ?_ j5 (hsub a0 b (by unfold fAdd;rw [if_pos rfl])) hv ?_ ?_⟩
            · obtain ⟨k5,p5,d5⟩:=hM5.pa
              obtain ⟨l5,t5,e5⟩:=hM5.ta
              exact ⟨by rw [upd_ne nx.symm];exact hM5.obj,⟨k5,by rw [upd_ne nB.1.symm];exact p5,d5⟩,⟨l5,by rw [upd_ne nB.2.1.symm];exact t5,e5⟩,by rw [upd_ne nB.2.2.symm];exact hM5.wa,hM5.pt,hM5.sep,hM5.fl,hM5.gl,hM5.wl⟩
            · have z:=s1.free m6
              rw [hlo _ nB.1.symm] at z
              exact z
            · have z:=s1.free m7
              rw [hlo _ nB.2.1.symm] at z
              exact z
          · exact ⟨frm (fr4.trans fr5),⟨_,_,rfl⟩,next fun _=>hno⟩
    · rintro σ H' ⟨s1,⟨x,y,rfl⟩,hall⟩
      refine ⟨s1 _ _ hlB,kN _ (un s1) fun φ ψ iso=>?_⟩
      rw [List.take_length] at hall
      have hφ:=(iso.fwd a0 s hs).1
      obtain ⟨p,hp,e⟩:=List.mem_map.mp ((dbag.mem (φ a0)).mpr (by rw [hφ];rfl))
      cases hv:Vv (φ a0) with
      | some c=>rfl
      | none=>exact absurd rfl (hall p hp (φ a0) e hv φ ψ iso)
def spIsSame (C CR:Addr):Sp:=fun vs H Q _=>∃ (A B:RecAd) (r q:Nets.Rec),vs=[.ref A.p,.ref B.p]∧RecAt C CR H A r∧RecAt C CR H B q∧RecOk r∧RecOk q∧(∀ x∈A.fp,x∉B.fp)∧∀ H',Same H H'→Q (.bl (Nets.same r q)) H'
theorem sc_is_same_net:FnScope ["left", "right", "taken", "seen", "agent", "matching"] ["left", "right"] (defScope s_is_same_net):=⟨rfl,rfl,rfl,by decide +kernel,rfl,by decide +kernel,by decide +kernel⟩
theorem ok_is_same_net {f:Addr} {fd:FuncData} (F:Fun K "is_same_net" "is_same_net" s_is_same_net f fd) (T:Txt K mg C CR) (TM:TxtM K CM) (D_names_fit:Df P w K mg base "names_fit" ["left", "right"] 2 (spNamesFit C)) (D_match_part:Df P w K mg base "match_part" ["left", "right", "agent", "taken"] 4 (spMatchPart C CM)):FnOk P w K mg base CX0 5 f fd ["left", "right"] (spIsSame C CR):=by
  refine F.ok sc_is_same_net (fun vs H Q E h=>?_) (fun cdv A0 outer s H vs Q E hr h=>?_)
  · obtain ⟨A,B,r,q,rfl,_⟩:=h
    rfl
  · obtain ⟨A,B,r,q,rfl,hA,hB,okr,okq,dis,k⟩:=h
    have nd:=sc_is_same_net.nd
    have hu:=hu_of hr
    obtain ⟨kva,hag,dag⟩:=hA.ag
    obtain ⟨kvb,hbg,dbg⟩:=hB.ag
    have la:kva.length=(presL r).length:=dag.len (B:=64) fun n hn=>okr.sym_lt hn
    have lb:kvb.length=(presL q).length:=dbg.len (B:=64) fun n hn=>okq.sym_lt hn
    have si:=same_iff okr okq
    have no:(¬ ∃ φ ψ,Iso r q φ ψ)→∀ H',Same H H'→Q (.bl false) H':=fun hn H' s=>by
      have z:=k H' s
      have e:Nets.same r q=false:=by
        rw [Bool.eq_false_iff]
        exact fun y=>hn (si.mp y)
      rw [e] at z
      exact z
    refine ⟨_,(pss_cons (ps_if (PW.pt (pw_or (pt_cmpR op_ne (pe_callB call_lenD (by rfl) T.b_len PySem.boot_len (pa_cons (pe_fld (pv 0) rfl) pa_nil)) (pe_callB call_lenD (by rfl) T.b_len PySem.boot_len (pa_cons (pe_fld (pv 1) rfl) pa_nil)) (nomark _)) (pw_or1 (pt_not (pt_val (pe_callD D_names_fit (hr.mono (by decide)) rfl (pa_cons (pv 0) (pa_cons (pv 1) pa_nil)))))))) (pss_one (ps_ret pe_bl)) pss_nil) (pss_cons (ps_set (i:=2) nd rfl (Or.inl rfl) pe_dnewK) (pss_cons (ps_set (i:=3) nd rfl (Or.inl rfl) pe_dnewK) (pss_cons (ps_lock (ps_for PassesOwn.never rfl (pi_keys (pe_fld (pv 0) rfl)) (pg_name (i:=4) nd rfl (Or.inl rfl)) (pss_one (ps_if (pt_cmp (pc_dnotin hu (pv 4) (pv 3))) (pss_cons (ps_set (i:=5) nd rfl (Or.inl rfl) (pe_callD D_match_part (hr.mono (by decide)) rfl (pa_cons (pv 0) (pa_cons (pv 1) (pa_cons (pv 4) (pa_cons (pv 2) pa_nil)))))) (pss_cons (ps_if (pt_cmp (pc_isN (pv 5))) (pss_one (ps_ret pe_bl)) pss_nil) (pss_cons (ps_expr (pe_dupd (pv 3) (pe_fld (pv 5) rfl) ⟨rfl,rfl,rfl,rfl⟩)) (pss_one (ps_expr (pe_dupd (pv 2) (pe_fld (pv 5) rfl) ⟨rfl,rfl,rfl,rfl⟩)))))) pss_nil)))) (pss_one (ps_ret pe_bl)))))),?_⟩
    refine ⟨_,rfl,A.p,C,A.dx,_,_,rfl,hA.obj,T.cl,T.nAgents,recF_agents A,A.ag,kva,rfl,hag,_,rfl,B.p,C,B.dx,_,_,rfl,hB.obj,T.cl,T.nAgents,recF_agents B,B.ag,kvb,rfl,hbg,rfl,_,rfl,ite2 (fun c=>?_) (fun c=>?_)⟩
    · have c:¬ V.int (kva.length:Int)=V.int (kvb.length:Int):=by simpa using c
      refine iteT (no (fun ⟨φ,ψ,iso⟩=>c (vint ?_)) H (Same.refl _))
      have:=iso_count okr okq iso
      omega
    · have c:V.int (kva.length:Int)=V.int (kvb.length:Int):=by simpa using c
      have cnt:(presL r).length=(presL q).length:=by injection c with c;omega
      refine ⟨_,rfl,_,rfl,A,B,r,q,rfl,hA.rd,hB.rd,okr,okq,fun nf=>⟨_,rfl,iteF ?_⟩,fun nf=>⟨_,rfl,iteT (no (fun ⟨φ,ψ,iso⟩=>nf (iso_names okr okq iso)) H (Same.refl _))⟩⟩
      intro t ht
      intro sn hsn
      have h1:=upd_none hsn
      have nt:t≠sn:=h1.2.symm
      have fpt:∀ {x:Addr},(x∈A.fp∨x∈B.fp)→x≠t∧x≠sn:=fun {x} hx=>by
        have ex:∃ o,H x=some o:=by
          rcases hx with hx | hx
          · exact hA.there x hx
          · exact hB.there x hx
        obtain ⟨o,e⟩:=ex
        exact ⟨ne_of_none e ht,ne_of_none e h1.1⟩
      have s0:Same H (upd (upd H t (.dK [])) sn (.dK [])):=Same.upd (Same.upd (Same.refl _) ht) hsn
      have ht2:(upd (upd H t (.dK [])) sn (.dK [])) t=some (.dK []):=by rw [upd_ne nt];exact upd_same
      have hs2:(upd (upd H t (.dK [])) sn (.dK [])) sn=some (.dK []):=upd_same
      generalize upd (upd H t (.dK [])) sn (.dK [])=H2 at *
      have hA2:=hA.same s0
      have hB2:=hB.same s0
      have ap:=hA.ap
      have bp:=hB.ap
      refine ⟨A.ag,.dK kva,s0 _ _ hag,True.intro,fun od=>⟨_,rfl,A.p,C,A.dx,_,_,rfl,(by rw [upd_ne ap.pa];exact hA2.obj),T.cl,T.nAgents,recF_agents A,A.ag,od,rfl,.inl ⟨kva,upd_same,?_⟩⟩⟩
      have nb:∀ {x:Addr},x∈B.fp→x≠A.ag:=fun {x} hx z=>dis A.ag A.mem_ag (by rw [← z];exact hx)
      have hAl:NetRd C (upd H2 A.ag (.frz od (.dK kva))) A r:=hA2.rd.lockAg dag ap.pa ap.aj.symm
      have hBl:NetRd C (upd H2 A.ag (.frz od (.dK kva))) B q:=hB2.rd.lockOther (nb B.mem_p) (nb B.mem_ag) (nb B.mem_jo)
      have hlA:(upd H2 A.ag (.frz od (.dK kva))) A.ag=some (.frz od (.dK kva)):=upd_same
      have hlo:∀ c,c≠A.ag→(upd H2 A.ag (.frz od (.dK kva))) c=H2 c:=fun c hc=>upd_ne hc
      have tA:t≠A.ag:=fun z=>(fpt (.inl A.mem_ag)).1 z.symm
      have sA:sn≠A.ag:=fun z=>(fpt (.inl A.mem_ag)).2 z.symm
      generalize hHl:upd H2 A.ag (.frz od (.dK kva))=Hl at *
      have un:∀ {H' : Hp},(∀ c o,Hl c=some o→c≠t→c≠sn→H' c=some o)→Same H (upd H' A.ag (.dK kva)):=fun {H'} fr c o e=>by
        by_cases z:c=A.ag
        · subst z
          rw [upd_same]
          rw [hag] at e
          exact e
        · rw [upd_ne z]
          exact fr c o (by rw [hlo c z];exact s0 c o e) (ne_of_none e ht) (ne_of_none e h1.1)
      have dnil:∀ {g:Nat→Option V},(∀ n,g n=none)→DictV [] g:=fun hg=>⟨List.nodup_nil,fun n=>by rw [hg];rfl,fun k hk=>absurd hk (by simp)⟩
      refine for_keys (fun i σ H'=>(∀ c o,Hl c=some o→c≠t→c≠sn→H' c=some o)∧(∃ x y,σ=[some (.ref A.p),some (.ref B.p),some (.ref t),some (.ref sn),x,y])∧∃ U Vv kvu kvv,H' sn=some (.dK kvu)∧DictIs kvu U∧H' t=some (.dK kvv)∧DictV kvv (tkV Vv)∧Cl r q U Vv∧∀ p∈kva.take i,∀ a:Nat,p.1=.inl (a:Int)→∃ b,U a=some b)
        ⟨fun c o e _ _=>e,⟨_,_,rfl⟩,fun _=>none,fun _=>none,[],[],by rw [hlo _ sA];exact hs2,(dnil (g:=fun _=>none) fun _=>rfl).is fun _=>rfl,by rw [hlo _ tA];exact ht2,dnil fun _=>rfl,⟨fun a b=>⟨fun h=>(by cases h),fun h=>(by cases h)⟩,fun a b h=>(by cases h),fun a b j h=>(by cases h)⟩,fun p hp=>absurd hp (by simp)⟩ (fun i σ H' _ ⟨e,_⟩=>e _ _ hlA tA.symm sA.symm) ?_ ?_
      · rintro i ky v σ H' hi ⟨fr,⟨x,y,rfl⟩,U,Vv,kvu,kvv,hsn',du,ht',dv,cl,hall⟩
        obtain ⟨a0,rfl⟩:=dag.key ky (List.mem_map.mpr ⟨_,List.mem_of_getElem? hi,rfl⟩)
        have hsn0:=(dag.mem a0).mp (List.mem_map.mpr ⟨_,List.mem_of_getElem? hi,rfl⟩)
        obtain ⟨sa,hsa⟩:=Option.isSome_iff_exists.mp hsn0
        have next:∀ {U' : Nat→Option Nat},(∀ a b,U a=some b→∃ b',U' a=some b')→(∃ b,U' a0=some b)→∀ p∈kva.take (i+1),∀ a:Nat,p.1=.inl (a:Int)→∃ b,U' a=some b:=fun {U'} hup hgood p hp a e1=>by
          rw [take_snoc hi] at hp
          rcases List.mem_append.mp hp with z | z
          · obtain ⟨b,hb⟩:=hall p z a e1
            exact hup a b hb
          · have e:p=(.inl (a0:Int),v):=by simpa using z
            subst e
            have e3:a=a0:=by
              injection e1 with e1
              omega
            subst e3
            exact hgood
        refine ⟨_,rfl,_,rfl,sn,_,rfl,DGet.k (k:=Sum.inl (a0:Int)) hsn',_,rfl,?_⟩
        rw [du.val]
        cases hU:U a0 with
        | some b=>exact iteF ⟨fr,⟨_,_,rfl⟩,U,Vv,kvu,kvv,hsn',du,ht',dv,cl,next (fun a b h=>⟨b,h⟩) ⟨b,hU⟩⟩
        | none =>
          have keepF:∀ {x:Addr},(x∈A.fp∨x∈B.fp)→∀ o,Hl x=some o→H' x=some o:=fun hx o e=>fr _ o e (fpt hx).1 (fpt hx).2
          have hA' : NetRd C H' A r:=by
            obtain ⟨ka,ea,da⟩:=hAl.ag
            obtain ⟨kj,ej,dj⟩:=hAl.jo
            have f:∀ {x:Addr} {u:HO},x∈A.fp→Rd Hl x u→Rd H' x u:=fun {x u} hx z=>by
              rcases z with z | ⟨ob,z⟩
              · exact .inl (keepF (.inl hx) _ z)
              · exact .inr ⟨ob,keepF (.inl hx) _ z⟩
            exact ⟨keepF (.inl A.mem_p) _ hAl.obj,⟨ka,f A.mem_ag ea,da⟩,⟨kj,f A.mem_jo ej,dj⟩⟩
          have hB' : NetRd C H' B q:=by
            obtain ⟨ka,ea,da⟩:=hBl.ag
            obtain ⟨kj,ej,dj⟩:=hBl.jo
            have f:∀ {x:Addr} {u:HO},x∈B.fp→Rd Hl x u→Rd H' x u:=fun {x u} hx z=>by
              rcases z with z | ⟨ob,z⟩
              · exact .inl (keepF (.inr hx) _ z)
              · exact .inr ⟨ob,keepF (.inr hx) _ z⟩
            exact ⟨keepF (.inr B.mem_p) _ hBl.obj,⟨ka,f B.mem_ag ea,da⟩,⟨kj,f B.mem_jo ej,dj⟩⟩
          have hbg' : H' B.ag=some (.dK kvb):=keepF (.inr B.mem_ag) _ (by rw [hlo _ (nb B.mem_ag)];exact s0 _ _ hbg)
          refine iteT ⟨_,rfl,_,rfl,_,rfl,_,rfl,A,B,r,q,a0,sa,t,kvv,kvb,Vv,rfl,hA',hB',hbg',dbg,okr,okq,hsa,ht',dv,?_,fun H3 M f g b0 s3 hM jj hf hv hpn htn=>?_,fun H3 s3 hno=>?_⟩
          · simp only [List.mem_cons,List.not_mem_nil,or_false,not_or]
            refine ⟨fun z=>dis A.p A.mem_p (by rw [← z];exact B.mem_ag),fun z=>dis A.ag A.mem_ag (by rw [← z];exact B.mem_ag),fun z=>dis A.jo A.mem_jo (by rw [← z];exact B.mem_ag),bp.pa.symm,bp.aj,(fpt (.inr B.mem_ag)).1⟩
          · refine ⟨_,rfl,_,rfl,iteF ?_⟩
            obtain ⟨kvp,hpa,dpa⟩:=hM.pa
            obtain ⟨kvt,hta,dta⟩:=hM.ta
            have nsp:sn≠M.pa:=fun z=>by rw [← z,hsn'] at hpn;cases hpn
            have nst:sn≠M.ta:=fun z=>by rw [← z,hsn'] at htn;cases htn
            have ntt:t≠M.ta:=fun z=>by rw [← z,ht'] at htn;cases htn
            have lU:=du.len_le (B:=64) fun n hn=>by
              obtain ⟨b,hb⟩:=Option.isSome_iff_exists.mp hn
              obtain ⟨s',s1,_⟩:=cl.sym n b hb
              exact okr.sym_lt (by rw [s1];rfl)
            have lp:=dpa.len_le (B:=64) hM.fl
            have lV:=tk_len dv fun n hn=>by
              obtain ⟨a,ha⟩:=Option.isSome_iff_exists.mp hn
              obtain ⟨s',_,s2⟩:=cl.sym a n ((cl.inv _ _).mpr ha)
              exact okq.sym_lt (by rw [s2];rfl)
            have lt:=tk_len dta hM.gl
            have hobj:=hM.obj
            have nms:M.m≠sn:=ne_of hobj (s3 _ _ hsn') (by intro z;cases z)
            refine ⟨_,rfl,sn,rfl,.inl ⟨kvu,.inl (s3 _ _ hsn')⟩,_,rfl,M.m,CM,M.dm,_,_,rfl,hobj,TM.cl,TM.nPartners,matF_partners M A B,M.pa,kvu,kvp,rfl,s3 _ _ hsn',.inl hpa,nsp,Nat.le_of_lt (small1000 (by omega)),?_⟩
            refine ⟨_,rfl,t,rfl,.inl ⟨kvv,.inl (by rw [upd_ne nt];exact s3 _ _ ht')⟩,_,rfl,M.m,CM,M.dm,_,_,rfl,(by rw [upd_ne nms];exact hobj),TM.cl,TM.nTaken,matF_taken M A B,M.ta,kvv,kvt,rfl,(by rw [upd_ne nt];exact s3 _ _ ht'),.inl (by rw [upd_ne nst.symm];exact hta),ntt,Nat.le_of_lt (small1000 (by omega)),?_⟩
            refine ⟨fun c o e m1 m2=>by rw [upd_ne m1,upd_ne m2];exact s3 _ _ (fr c o e m1 m2),⟨_,_,rfl⟩,fun a=>(f a).or (U a),fun b=>(g b).or (Vv b),_,_,by rw [upd_ne nt.symm];exact upd_same,(du.v.merge dpa.v).is fun n=>?_,upd_same,(dv.merge dta).congr fun n=>?_,jj.join cl hU hv,next (fun a b h=>?_) ⟨b0,?_⟩⟩
            · cases f n <;> rfl
            · show ((g n).map fun _=>V.bl true).or ((Vv n).map fun _=>V.bl true)=((g n).or (Vv n)).map fun _=>V.bl true
              cases g n <;> rfl
            · show ∃ b',(f a).or (U a)=some b'
              cases e:f a with
              | none=>exact ⟨b,h⟩
              | some c=>exact ⟨c,rfl⟩
            · show (f a0).or (U a0)=some b0
              rw [hf];rfl
          · refine ⟨_,rfl,_,rfl,iteT ?_⟩
            have fr3:∀ c o,Hl c=some o→c≠t→c≠sn→H3 c=some o:=fun c o e m1 m2=>s3 _ _ (fr c o e m1 m2)
            refine ⟨fr3 _ _ hlA tA.symm sA.symm,no (fun ⟨φ,ψ,iso⟩=>?_) _ (un fr3)⟩
            obtain ⟨φ',ψ',iso',hx⟩:=ext_iso okr okq iso cl
            obtain ⟨a',ha'⟩:=Option.isSome_iff_exists.mp (hno φ' ψ' iso')
            have hUa:=(cl.inv _ _).mpr ha'
            obtain ⟨s',s1,_⟩:=cl.sym _ _ hUa
            have z:=hx _ _ hUa
            have z1:=(iso'.fwd _ _ hsa).2
            have z2:=(iso'.fwd _ _ s1).2
            rw [z,z1] at z2
            rw [z2,hUa] at hU
            cases hU
      · rintro σ H' ⟨fr,⟨x,y,rfl⟩,U,Vv,kvu,kvv,hsn',du,ht',dv,cl,hall⟩
        refine ⟨fr _ _ hlA tA.symm sA.symm,?_⟩
        rw [List.take_length] at hall
        have z:=k _ (un fr)
        have e:Nets.same r q=true:=si.mpr (iso_of okr okq cl (fun a s hs=>by
          obtain ⟨p,hp,e⟩:=List.mem_map.mp ((dag.mem a).mpr (by rw [hs];rfl))
          exact hall p hp a e) cnt nf)
        rw [e] at z
        exact z
def spTellSame (C CR:Addr):Sp:=fun vs H Q _=>∃ (A B:RecAd) (r q:Nets.Rec),vs=[.ref A.p,.ref B.p]∧RecAt C CR H A r∧RecAt C CR H B q∧RecOk r∧RecOk q∧(∀ x∈A.fp,x∉B.fp)∧∀ H' p,Same H H'→H p=none→H' p=some (.lst (ansV (Nets.tells [(Nets.same r q).toNat])))→Q (.ref p) H'
theorem sc_tell_same:FnScope ["left", "right"] ["left", "right"] (defScope s_tell_same):=⟨rfl,rfl,rfl,by decide +kernel,rfl,by decide +kernel,by decide +kernel⟩
theorem ok_tell_same {f:Addr} {fd:FuncData} (F:Fun K "tell_same" "tell_same" s_tell_same f fd) (T:Txt K mg C CR) (D_is_same_net:Df P w K mg base "is_same_net" ["left", "right"] 5 (spIsSame C CR)):FnOk P w K mg base CX0 6 f fd ["left", "right"] (spTellSame C CR):=by
  refine F.ok sc_tell_same (fun vs H Q E h=>?_) (fun cdv A0 outer s H vs Q E hr h=>?_)
  · obtain ⟨A,B,r,q,rfl,_⟩:=h
    rfl
  · obtain ⟨A,B,r,q,rfl,hA,hB,okr,okq,dis,k⟩:=h
    refine ⟨_,(pss_cons (ps_if (pt_val (pe_callD D_is_same_net (hr.mono (by decide)) rfl (pa_cons (pv 0) (pa_cons (pv 1) pa_nil)))) (pss_one (ps_ret (pe_lst (pa_cons pe_int (pa_cons pe_int pa_nil))))) pss_nil) (pss_one (ps_ret (pe_lst (pa_cons pe_int (pa_cons pe_int pa_nil)))))),?_⟩
    refine ⟨_,rfl,_,rfl,A,B,r,q,rfl,hA,hB,okr,okq,dis,fun H1 s1=>⟨_,rfl,?_⟩⟩
    cases e:Nets.same r q with
    | true =>
      rw [e] at k
      exact iteT ⟨(by show 2≤sizeLine;decide),fun p hp=>k _ p (Same.upd s1 hp) (s1.free hp) upd_same⟩
    | false =>
      rw [e] at k
      exact iteF ⟨(by show 2≤sizeLine;decide),fun p hp=>k _ p (Same.upd s1 hp) (s1.free hp) upd_same⟩
end
theorem flatMap_same {α β:Type} {f g:α→List β}:∀ {l:List α},(∀ a∈l,f a=g a)→l.flatMap f=l.flatMap g
  | [],_=>rfl
  | a::l,h=>by
    rw [List.flatMap_cons,List.flatMap_cons,h a List.mem_cons_self,flatMap_same fun b hb=>h b (List.mem_cons_of_mem _ hb)]
section
variable {r:Nets.Rec}
def addSym (r:Nets.Rec) (n:Nat):Nets.Rec:=⟨r.arity++[n],r.rules,r.sym,r.link⟩
theorem of_app {s n:Nat} (h:s<r.arity.length):(addSym r n).of s=r.of s:=by
  show (r.arity++[n]).getD s 0=r.arity.getD s 0
  rw [List.getD_eq_getElem?_getD,List.getD_eq_getElem?_getD,List.getElem?_append_left h]
theorem needed_app {s t n:Nat} {news:List Nat} (hs:s<r.arity.length) (ht:t<r.arity.length) (hn:∀ x∈news,x<r.arity.length):needed (addSym r n) s t news=needed r s t news:=by
  unfold needed newPl
  rw [of_app hs,of_app ht]
  congr 1
  refine flatMap_same fun x hx=>?_
  have hm:x.1∈news:=by
    obtain ⟨x1,x2⟩:=x
    exact (List.mem_zipIdx hx).2.2 ▸ List.getElem_mem _
  rw [of_app (hn _ hm)]
theorem isPort_mono {r' : Nets.Rec} (h:∀ a s,r.symAt a=some s→r'.symAt a=some s∧r.of s≤r'.of s) {x:Nat} (hx:r.isPort x=true):r'.isPort x=true:=by
  unfold Nets.Rec.isPort at hx ⊢
  by_cases c:Nets.NAMES≤x
  · rw [if_pos c] at hx ⊢
    exact hx
  · rw [if_neg c] at hx ⊢
    cases e:r.symAt (x / 4) with
    | none=>rw [e] at hx;cases hx
    | some s =>
      rw [e] at hx
      obtain ⟨h1,h2⟩:=h _ _ e
      rw [h1]
      have q:=of_decide_eq_true hx
      exact decide_eq_true (Nat.le_trans q h2)
theorem ok_symbol (ok:RecOk r) (ro:RulesOk r) {n:Nat} (hn:n≤3) (hl:r.arity.length<16):RecOk (addSym r n)∧RulesOk (addSym r n):=by
  have mono:∀ {x:Nat},r.isPort x=true→(addSym r n).isPort x=true:=fun {x} hx=>isPort_mono (r:=r) (r':=addSym r n) (fun a s h=>⟨h,by rw [of_app (ok.symOk a s h)];exact Nat.le_refl _⟩) hx
  have len:(addSym r n).arity.length=r.arity.length+1:=by show (r.arity++[n]).length=_;rw [List.length_append];rfl
  refine ⟨⟨fun m hm=>?_,by rw [len];omega,ok.sl,ok.ll,fun a s h=>by rw [len];exact Nat.lt_succ_of_lt (ok.symOk a s h),fun x y h=>?_⟩,fun R hR=>?_⟩
  · have hm:m∈r.arity++[n]:=hm
    rcases List.mem_append.mp hm with z | z
    · exact ok.ar3 m z
    · have e:m=n:=by simpa using z
      omega
  · obtain ⟨h1,h2,h3,h4⟩:=ok.linkOk x y h
    exact ⟨mono h1,mono h2,h3,h4⟩
  · have q:=ro R hR
    have md:=q.made
    refine ⟨by rw [len];exact Nat.lt_succ_of_lt q.s,by rw [len];exact Nat.lt_succ_of_lt q.t,⟨?_,md.nd,md.n6,fun s hs=>by rw [len];exact Nat.lt_succ_of_lt (md.sym s hs)⟩⟩
    rw [needed_app q.s q.t md.sym]
    exact md.perm
theorem ok_agent (ok:RecOk r) (ro:RulesOk r) {a s:Nat} (ha:r.symAt a=none) (a64:a<64) (hs:s<r.arity.length):RecOk ⟨r.arity,r.rules,r.sym.set a (some s),r.link⟩∧RulesOk ⟨r.arity,r.rules,r.sym.set a (some s),r.link⟩:=by
  have sy:∀ n,(⟨r.arity,r.rules,r.sym.set a (some s),r.link⟩ : Nets.Rec).symAt n=if n=a then some s else r.symAt n:=fun n=>by
    show (r.sym.set a (some s)).getD n none=_
    rw [getD_set]
    by_cases c:n=a
    · rw [if_pos ⟨c,by rw [ok.sl];exact a64⟩,if_pos c]
    · rw [if_neg (fun z=>c z.1),if_neg c]
      rfl
  have mono:∀ {x:Nat},r.isPort x=true→(⟨r.arity,r.rules,r.sym.set a (some s),r.link⟩ : Nets.Rec).isPort x=true:=fun {x} hx=>isPort_mono (r:=r) (r':=⟨r.arity,r.rules,r.sym.set a (some s),r.link⟩) (fun n t h=>⟨by
    rw [sy,if_neg (fun z=>by rw [z,ha] at h;cases h)]
    exact h,Nat.le_refl _⟩) hx
  refine ⟨⟨ok.ar3,ok.ar16,by show (r.sym.set a (some s)).length=64;rw [List.length_set];exact ok.sl,ok.ll,fun n t h=>?_,fun x y h=>?_⟩,fun R hR=>?_⟩
  · rw [sy] at h
    by_cases c:n=a
    · rw [if_pos c] at h
      cases h
      exact hs
    · rw [if_neg c] at h
      exact ok.symOk n t h
  · obtain ⟨h1,h2,h3,h4⟩:=ok.linkOk x y h
    exact ⟨mono h1,mono h2,h3,h4⟩
  · have q:=ro R hR
    exact ⟨q.s,q.t,⟨q.made.perm,q.made.nd,q.made.n6,q.made.sym⟩⟩
theorem ok_rule (ok:RecOk r) (ro:RulesOk r) {R:Nets.Rule} (hs:R.s<r.arity.length) (ht:R.t<r.arity.length) (hw:r.wellMade R=true):RecOk ⟨r.arity,r.rules++[R],r.sym,r.link⟩∧RulesOk ⟨r.arity,r.rules++[R],r.sym,r.link⟩:=by
  refine ⟨⟨ok.ar3,ok.ar16,ok.sl,ok.ll,ok.symOk,ok.linkOk⟩,fun R' hR=>?_⟩
  have hR:R'∈r.rules++[R]:=hR
  rcases List.mem_append.mp hR with z | z
  · have q:=ro R' z
    exact ⟨q.s,q.t,⟨q.made.perm,q.made.nd,q.made.n6,q.made.sym⟩⟩
  · have e:R'=R:=by simpa using z
    subst e
    have q:=made_of ok hw
    exact ⟨hs,ht,⟨q.perm,q.nd,q.n6,q.sym⟩⟩
theorem ok_link (ok:RecOk r) (ro:RulesOk r) {li:List (Option Nat)} (hl:li.length=272) (h:∀ x y,li.getD x none=some y→r.isPort x=true∧r.isPort y=true∧li.getD y none=some x∧x≠y):RecOk ⟨r.arity,r.rules,r.sym,li⟩∧RulesOk ⟨r.arity,r.rules,r.sym,li⟩:=by
  refine ⟨⟨ok.ar3,ok.ar16,ok.sl,hl,ok.symOk,h⟩,fun R hR=>?_⟩
  have q:=ro R hR
  exact ⟨q.s,q.t,⟨q.made.perm,q.made.nd,q.made.n6,q.made.sym⟩⟩
theorem ok_join (ok:RecOk r) (ro:RulesOk r) {x y:Nat} (hx:r.isPort x=true) (hy:r.isPort y=true) (hne:x≠y) (ex:r.at_ x=none) (ey:r.at_ y=none) :
    RecOk ⟨r.arity,r.rules,r.sym,(r.link.set x (some y)).set y (some x)⟩∧RulesOk ⟨r.arity,r.rules,r.sym,(r.link.set x (some y)).set y (some x)⟩:=by
  have lx:=ok.port_lt hx
  have ly:=ok.port_lt hy
  have v:∀ m,((r.link.set x (some y)).set y (some x)).getD m none=if m=y then some x else if m=x then some y else r.at_ m:=fun m=>by
    rw [getD_set,getD_set,List.length_set,ok.ll]
    by_cases z:m=y
    · rw [if_pos ⟨z,ly⟩,if_pos z]
    · rw [if_neg (show ¬ (m=y∧y<272) from fun q=>z q.1),if_neg z]
      by_cases z2:m=x
      · rw [if_pos ⟨z2,lx⟩,if_pos z2]
      · rw [if_neg (show ¬ (m=x∧x<272) from fun q=>z2 q.1),if_neg z2]
        rfl
  refine ok_link ok ro (by rw [List.length_set,List.length_set];exact ok.ll) fun a b h=>?_
  rw [v] at h
  by_cases z:a=y
  · rw [if_pos z] at h
    cases h
    refine ⟨by rw [z];exact hy,hx,?_,by rw [z];exact hne.symm⟩
    rw [v,if_neg hne,if_pos rfl,z]
  · rw [if_neg z] at h
    by_cases z2:a=x
    · rw [if_pos z2] at h
      cases h
      refine ⟨by rw [z2];exact hx,hy,?_,by rw [z2];exact hne⟩
      rw [v,if_pos rfl,z2]
    · rw [if_neg z2] at h
      obtain ⟨h1,h2,h3,h4⟩:=ok.linkOk a b h
      refine ⟨h1,h2,?_,h4⟩
      rw [v,if_neg (fun q=>by rw [q,ey] at h3;cases h3),if_neg (fun q=>by rw [q,ex] at h3;cases h3)]
      exact h3
theorem ok_part (ok:RecOk r) (ro:RulesOk r) {x y:Nat} (h:r.at_ x=some y) :
    RecOk ⟨r.arity,r.rules,r.sym,(r.link.set x none).set y none⟩∧RulesOk ⟨r.arity,r.rules,r.sym,(r.link.set x none).set y none⟩:=by
  obtain ⟨hx,hy,hyx,hne⟩:=ok.linkOk x y h
  have lx:=ok.port_lt hx
  have ly:=ok.port_lt hy
  have v:∀ m,((r.link.set x none).set y none).getD m none=if m=y then none else if m=x then none else r.at_ m:=fun m=>by
    rw [getD_set,getD_set,List.length_set,ok.ll]
    by_cases z:m=y
    · rw [if_pos ⟨z,ly⟩,if_pos z]
    · rw [if_neg (show ¬ (m=y∧y<272) from fun q=>z q.1),if_neg z]
      by_cases z2:m=x
      · rw [if_pos ⟨z2,lx⟩,if_pos z2]
      · rw [if_neg (show ¬ (m=x∧x<272) from fun q=>z2 q.1),if_neg z2]
        rfl
  refine ok_link ok ro (by rw [List.length_set,List.length_set];exact ok.ll) fun a b hab=>?_
  rw [v] at hab
  by_cases z:a=y
  · rw [if_pos z] at hab;cases hab
  · rw [if_neg z] at hab
    by_cases z2:a=x
    · rw [if_pos z2] at hab;cases hab
    · rw [if_neg z2] at hab
      obtain ⟨h1,h2,h3,h4⟩:=ok.linkOk a b hab
      refine ⟨h1,h2,?_,h4⟩
      rw [v,if_neg (fun q=>?_),if_neg (fun q=>?_)]
      · exact h3
      · rw [q,h] at h3
        exact z (Option.some.inj h3).symm
      · rw [q,hyx] at h3
        exact z2 (Option.some.inj h3).symm
theorem ok_run:∀ (n:Nat) (r:Nets.Rec),RecOk r→RulesOk r→r.whole=true→RecOk (Nets.Rec.run n r).2∧RulesOk (Nets.Rec.run n r).2∧(Nets.Rec.run n r).2.rules=r.rules
  | 0,r,ok,ro,_=>⟨ok,ro,rfl⟩
  | n+1,r,ok,ro,hw=>by
    rw [run_succ]
    cases e1:r.pairs.head? with
    | none=>exact ⟨ok,ro,rfl⟩
    | some a =>
      show RecOk (match r.pairAt a with
        | none=>(0,r)
        | some P=>if (r.numbers P).length<P.rule.news.length then (0,r) else ((Nets.Rec.run n (r.stepped P)).1+1,(Nets.Rec.run n (r.stepped P)).2)).2∧RulesOk (match r.pairAt a with
        | none=>(0,r)
        | some P=>if (r.numbers P).length<P.rule.news.length then (0,r) else ((Nets.Rec.run n (r.stepped P)).1+1,(Nets.Rec.run n (r.stepped P)).2)).2∧(match r.pairAt a with
        | none=>(0,r)
        | some P=>if (r.numbers P).length<P.rule.news.length then (0,r) else ((Nets.Rec.run n (r.stepped P)).1+1,(Nets.Rec.run n (r.stepped P)).2)).2.rules=r.rules
      cases e2:r.pairAt a with
      | none=>exact ⟨ok,ro,rfl⟩
      | some p =>
        show RecOk (if (r.numbers p).length<p.rule.news.length then (0,r) else ((Nets.Rec.run n (r.stepped p)).1+1,(Nets.Rec.run n (r.stepped p)).2)).2∧RulesOk (if (r.numbers p).length<p.rule.news.length then (0,r) else ((Nets.Rec.run n (r.stepped p)).1+1,(Nets.Rec.run n (r.stepped p)).2)).2∧(if (r.numbers p).length<p.rule.news.length then (0,r) else ((Nets.Rec.run n (r.stepped p)).1+1,(Nets.Rec.run n (r.stepped p)).2)).2.rules=r.rules
        by_cases hm:(r.numbers p).length<p.rule.news.length
        · rw [if_pos hm]
          exact ⟨ok,ro,rfl⟩
        · rw [if_neg hm]
          obtain ⟨b,po⟩:=pair_ok ok e2
          have st:Stp r a b p:=⟨ok,po,ro _ po.mem,hw,hm⟩
          exact ok_run n (r.stepped p) (stepped_ok st) (stepped_rules ro p) (stepped_whole st)
theorem does_ok (ok:RecOk r) (ro:RulesOk r) (c:Nets.Call):RecOk (Nets.does r c).1∧RulesOk (Nets.does r c).1∧(Nets.does r c).1.rules.length≤r.rules.length+1:=by
  have same:RecOk r∧RulesOk r∧r.rules.length≤r.rules.length+1:=⟨ok,ro,Nat.le_succ _⟩
  cases c with
  | open_ o=>exact same
  | same=>exact same
  | count o=>exact same
  | pairs o=>exact same
  | read o a=>exact same
  | name o n=>exact same
  | symbol o n =>
    unfold Nets.does
    dsimp only
    by_cases c1:3<n
    · rw [if_pos c1];exact same
    · rw [if_neg c1]
      by_cases c2:Nets.SYMBOLS≤r.arity.length
      · rw [if_pos c2];exact same
      · rw [if_neg c2]
        obtain ⟨h1,h2⟩:=ok_symbol ok ro (n:=n) (by omega) (by unfold Nets.SYMBOLS at c2;omega)
        exact ⟨h1,h2,Nat.le_succ _⟩
  | rule o s t b =>
    have de:=does_rule r s t b
    have e:Nets.does r (.rule o s t b)=Nets.does r (.rule 0 s t b):=rfl
    rw [e,de]
    by_cases c1:r.arity.length≤s∨r.arity.length≤t
    · rw [if_pos c1];exact same
    · rw [if_neg c1]
      by_cases c2:(r.ruleFor s t).isSome=true
      · rw [if_pos c2];exact same
      · rw [if_neg c2]
        cases hb:Nets.bodyOf s t b with
        | none=>exact same
        | some R =>
          show RecOk (if r.wellMade R=false then (r,Nets.says (-6)) else if s=t∧R.even=false then (r,Nets.says (-7)) else (⟨r.arity,r.rules++[R],r.sym,r.link⟩,Nets.says 0)).1∧RulesOk (if r.wellMade R=false then (r,Nets.says (-6)) else if s=t∧R.even=false then (r,Nets.says (-7)) else (⟨r.arity,r.rules++[R],r.sym,r.link⟩,Nets.says 0)).1∧(if r.wellMade R=false then (r,Nets.says (-6)) else if s=t∧R.even=false then (r,Nets.says (-7)) else (⟨r.arity,r.rules++[R],r.sym,r.link⟩,Nets.says 0)).1.rules.length≤r.rules.length+1
          by_cases c3:r.wellMade R=false
          · rw [if_pos c3];exact same
          · rw [if_neg c3]
            by_cases c4:s=t∧R.even=false
            · rw [if_pos c4];exact same
            · rw [if_neg c4]
              have est:R.s=s∧R.t=t:=by
                unfold Nets.bodyOf at hb
                cases b with
                | nil=>cases hb
                | cons k l =>
                  have hb:(if Nets.NEWS<k∨l.length<k then none else match Nets.twos (l.drop k) with
                    | none=>none
                    | some w=>some (⟨s,t,l.take k,w⟩ : Nets.Rule))=some R:=hb
                  by_cases c5:Nets.NEWS<k∨l.length<k
                  · rw [if_pos c5] at hb;cases hb
                  · rw [if_neg c5] at hb
                    cases e2:Nets.twos (l.drop k) with
                    | none=>rw [e2] at hb;cases hb
                    | some w =>
                      rw [e2] at hb
                      cases hb
                      exact ⟨rfl,rfl⟩
              obtain ⟨h1,h2⟩:=ok_rule ok ro (R:=R) (by rw [est.1];omega) (by rw [est.2];omega) (by simpa using c3)
              exact ⟨h1,h2,by show (r.rules++[R]).length≤_;rw [List.length_append];exact Nat.le_refl _⟩
  | agent o s =>
    unfold Nets.does
    dsimp only
    by_cases c1:r.arity.length≤s
    · rw [if_pos c1];exact same
    · rw [if_neg c1]
      rcases find_free ok with ⟨hf,_⟩ | ⟨a,hf,ha,hsa,hb,_⟩
      · simp only [hf];exact same
      · simp only [hf]
        obtain ⟨h1,h2⟩:=ok_agent ok ro (s:=s) hsa ha (by omega)
        exact ⟨h1,h2,Nat.le_succ _⟩
  | join o x y =>
    unfold Nets.does
    dsimp only
    by_cases c1:r.isPort x=false∨r.isPort y=false∨x=y
    · rw [if_pos c1];exact same
    · rw [if_neg c1]
      by_cases c2:(r.at_ x).isSome=true∨(r.at_ y).isSome=true
      · rw [if_pos c2];exact same
      · rw [if_neg c2]
        have n1:r.at_ x=none:=by cases e:r.at_ x with | none=>rfl | some z=>exact absurd (.inl (by rw [e];rfl)) c2
        have n2:r.at_ y=none:=by cases e:r.at_ y with | none=>rfl | some z=>exact absurd (.inr (by rw [e];rfl)) c2
        have p1:r.isPort x=true:=by cases e:r.isPort x with | true=>rfl | false=>exact absurd (.inl e) c1
        have p2:r.isPort y=true:=by cases e:r.isPort y with | true=>rfl | false=>exact absurd (.inr (.inl e)) c1
        obtain ⟨h1,h2⟩:=ok_join ok ro p1 p2 (fun z=>c1 (.inr (.inr z))) n1 n2
        exact ⟨h1,h2,Nat.le_succ _⟩
  | part o x =>
    unfold Nets.does
    dsimp only
    by_cases c1:r.isPort x=false
    · rw [if_pos c1];exact same
    · rw [if_neg c1]
      cases e:r.at_ x with
      | none=>exact same
      | some y =>
        obtain ⟨h1,h2⟩:=ok_part ok ro e
        exact ⟨h1,h2,Nat.le_succ _⟩
  | step o a =>
    have de:=does_step r a
    have e:Nets.does r (.step o a)=Nets.does r (.step 0 a):=rfl
    rw [e,de]
    cases hp:r.pairAt a with
    | none=>exact same
    | some p =>
      show RecOk (if r.whole=false then (r,Nets.says (-9)) else if (r.numbers p).length<p.rule.news.length then (r,Nets.says (-3)) else (r.stepped p,Nets.says 0)).1∧RulesOk (if r.whole=false then (r,Nets.says (-9)) else if (r.numbers p).length<p.rule.news.length then (r,Nets.says (-3)) else (r.stepped p,Nets.says 0)).1∧(if r.whole=false then (r,Nets.says (-9)) else if (r.numbers p).length<p.rule.news.length then (r,Nets.says (-3)) else (r.stepped p,Nets.says 0)).1.rules.length≤r.rules.length+1
      by_cases c1:r.whole=false
      · rw [if_pos c1];exact same
      · rw [if_neg c1]
        by_cases c2:(r.numbers p).length<p.rule.news.length
        · rw [if_pos c2];exact same
        · rw [if_neg c2]
          obtain ⟨b,po⟩:=pair_ok ok hp
          have st:Stp r a b p:=⟨ok,po,ro _ po.mem,by simpa using c1,c2⟩
          exact ⟨stepped_ok st,stepped_rules ro p,Nat.le_succ _⟩
  | run o n =>
    have de:=does_run r n
    have e:Nets.does r (.run o n)=Nets.does r (.run 0 n):=rfl
    rw [e,de]
    by_cases c1:200<n
    · rw [if_pos c1];exact same
    · rw [if_neg c1]
      by_cases c2:r.whole=false
      · rw [if_pos c2];exact same
      · rw [if_neg c2]
        obtain ⟨h1,h2,h3⟩:=ok_run n r ok ro (by simpa using c2)
        exact ⟨h1,h2,by show (Nets.Rec.run n r).2.rules.length≤_;rw [h3];exact Nat.le_succ _⟩
end
def KDict (P:Program) (w:World) (K:PySem.W.Frag) (a:Addr) (kvs:List (Key × V)):Prop:=∃ o vs,K.lookup a=some o∧o.IsDictOf (mixKind P w) vs∧KV kvs vs
def tKGet (kvs:List (Key × V)) (ty:TE):TE:=fun σ H Q=>ty σ H fun y H1=>∃ k v,y=kV k∧valV kvs k=some v∧Q v H1
theorem pe_kget {X:Cx} {x:Str} {p pos:Pos} {i:Expr} {ty:TE} {kvs:List (Key × V)} (g:∃ a,X.mg x=some (.ref a)∧KDict X.prog X.w X.K a kvs) (hg:Gl X x) (hi:PE X i ty) (hs:NoSl i) (hd:(x == ("__debug__" : Str))=false:=by decide) :
    PE X (.Subscript (.Name x p) i pos) (tKGet kvs ty):=by
  obtain ⟨a,hm,o,vs,hk,hdo,rel⟩:=g
  intro pins s σ H Q I h
  have pg:PE X (.Name x p) (tC (.ref a)):=pe_glob hg hm rfl hd
  refine subD_of PySem.F.slot_dict_getitem.lookup hs (thn (pg pins s σ H (fun x H1=>x=.ref a∧ty σ H1 fun y H2=>∃ k v,y=kV k∧valV kvs k=some v∧Q v H2) I ⟨rfl,h⟩) fun u s1 ⟨x,H1,I1,rx,ex,q1⟩=>thn (hi pins s1 σ H1 _ I1 q1) fun iv s2 ⟨y,H2,I2,ry,k,v,ey,l,q2⟩=>?_)
  subst ex
  subst ey
  obtain rfl:u=Value.ref a:=rx
  have dd:s2.heap.DictOf (mixKind X.prog X.w) a vs:=Heap.dictOf_iff.mpr ⟨o,I2.kIn a o hk,hdo⟩
  obtain ⟨w',hw,rw'⟩:=RelO.some_of (v:=v) (o:=valueAt vs k) (by rw [← l];exact rel.val k)
  exact ⟨dd.typeIs,wpAny_getItem_of (kV_is ry) dd.mapOf hw ⟨v,H2,I2.tok _,rw',q2⟩⟩
def ncK:List (Key × V):=[(.inl 1,.int 1),(.inl 2,.int 2),(.inl 3,.int 3),(.inl 4,.int 2),(.inl 5,.int 3),(.inl 6,.int 2),(.inl 7,.int 1),(.inl 8,.int 2),(.inl 9,.int 2),(.inl 10,.int 2),(.inl 11,.int 2),(.inl 12,.int 1),(.inl 13,.int 0)]
structure TxtN (P:Program) (w:World) (K:PySem.W.Frag) (mg:Str→Option Value):Prop where
  k_NUMBER_COUNTS:∃ a,mg "NUMBER_COUNTS" = some (.ref a)∧KDict P w K a ncK
theorem DictV.len_le {kvs:List (Key × V)} {g:Nat→Option V} (d:DictV kvs g) {B:Nat} (h:∀ b,(g b).isSome=true→b<B):kvs.length≤B:=by
  have z:DictIs (kvs.map fun p=>(p.1,nV 0)) fun b=>(g b).map fun _=>0:=by
    refine ⟨by rw [List.map_map];exact d.nd,fun n=>?_,fun k hk=>d.key k (by rw [List.map_map] at hk;exact hk)⟩
    have e:∀ (l:List (Key × V)) (k:Key),valV (l.map fun p=>(p.1,nV 0)) k=(valV l k).map fun _=>nV 0:=by
      intro l k
      induction l with
      | nil=>rfl
      | cons p l ih =>
        rw [List.map_cons]
        by_cases h:p.1=k
        · rw [valV_pos (p:=(p.1,nV 0)) h,valV_pos h];rfl
        · rw [valV_neg (p:=(p.1,nV 0)) h,valV_neg h,ih]
    rw [e,d.val]
    cases g n <;> rfl
  have y:=z.len_le (B:=B) fun n hn=>h n (by cases e:g n with | none=>rw [e] at hn;cases hn | some v=>rfl)
  rw [List.length_map] at y
  exact y
def rawOf:Nets.Call→List Nat
  | .open_ o=>[1,o]
  | .symbol o n=>[2,o,n]
  | .rule o s t b=>3::o::s::t::b.length::b
  | .agent o s=>[4,o,s]
  | .join o x y=>[5,o,x,y]
  | .part o x=>[6,o,x]
  | .pairs o=>[7,o]
  | .step o a=>[8,o,a]
  | .run o n=>[9,o,n]
  | .read o a=>[10,o,a]
  | .name o n=>[11,o,n]
  | .count o=>[12,o]
  | .same=>[13]
def kind (c:Nets.Call):Nat:=(rawOf c).getD 0 0
def cntOf:Nets.Call→Nat
  | .open_ _=>1
  | .symbol _ _=>2
  | .rule _ _ _ _=>3
  | .agent _ _=>2
  | .join _ _ _=>3
  | .part _ _=>2
  | .pairs _=>1
  | .step _ _=>2
  | .run _ _=>2
  | .read _ _=>2
  | .name _ _=>2
  | .count _=>1
  | .same=>0
theorem raw_pos (c:Nets.Call):0<(rawOf c).length:=by cases c <;> exact Nat.succ_pos _
theorem kind_nc (c:Nets.Call):valV ncK (.inl (kind c:Int))=some (nV (cntOf c)):=by cases c <;> rfl
theorem raw_len (c:Nets.Call) (h:kind c≠3):(rawOf c).length=1+cntOf c:=by
  cases c <;> first | rfl | exact absurd rfl h
structure StAt (C CR:Addr) (H:Hp) (D:Addr) (S:Nat→Option RecAd) (st:Nets.State) (N:Nat):Prop where
  dict:∃ kvs,H D=some (.dK kvs)∧DictV kvs fun o=>(S o).map fun A=>V.ref A.p
  len:st.length=2
  recs:∀ o A,S o=some A→∃ r,st.getD o none=some r∧RecAt C CR H A r∧RecOk r∧RulesOk r∧r.rules.length≤N
  non:∀ o,S o=none→st.getD o none=none
  sep:∀ o o' A A',o≠o'→S o=some A→S o'=some A'→∀ x∈A.fp,x∉A'.fp
  nD:∀ o A,S o=some A→D∉A.fp
def KeepS (H H' : Hp) (D:Addr) (S:Nat→Option RecAd):Prop:=∀ b o,H b=some o→b≠D→(∀ k A,S k=some A→b∉A.fp)→H' b=some o
theorem StAt.lt {C CR:Addr} {H:Hp} {D:Addr} {S:Nat→Option RecAd} {st:Nets.State} {N:Nat} (h:StAt C CR H D S st N) {o:Nat} {A:RecAd} (hS:S o=some A):o<2:=by
  obtain ⟨r,hr,_⟩:=h.recs o A hS
  rw [← h.len]
  exact getD_lt (by rw [hr];rfl)
theorem StAt.frame {C CR:Addr} {H H' : Hp} {D:Addr} {S:Nat→Option RecAd} {st:Nets.State} {N N' : Nat} (h:StAt C CR H D S st N) (s:Same H H') (hN:N≤N'):StAt C CR H' D S st N':=by
  obtain ⟨kvs,hd,dd⟩:=h.dict
  refine ⟨⟨kvs,s _ _ hd,dd⟩,h.len,fun o A hS=>?_,h.non,h.sep,h.nD⟩
  obtain ⟨r,h1,h2,h3,h4,h5⟩:=h.recs o A hS
  exact ⟨r,h1,h2.same s,h3,h4,Nat.le_trans h5 hN⟩
def setS (S:Nat→Option RecAd) (o:Nat) (A:RecAd) (k:Nat):Option RecAd:=if k=o then some A else S k
theorem st_set {st:Nets.State} {o k:Nat} {r:Nets.Rec} (ho:o<st.length):(st.set o (some r)).getD k none=if k=o then some r else st.getD k none:=by
  rw [getD_set]
  by_cases c:k=o
  · rw [if_pos ⟨c,ho⟩,if_pos c]
  · rw [if_neg (fun z=>c z.1),if_neg c]
theorem StAt.post {C CR:Addr} {H H' : Hp} {D:Addr} {S:Nat→Option RecAd} {st:Nets.State} {N:Nat} (h:StAt C CR H D S st N) {o:Nat} {A A' : RecAd} {r:Nets.Rec} {c:Nets.Call} (hS:S o=some A) (hr:st.getD o none=some r) (P:Post C CR H A (Nets.does r c).1 H' A') :
    StAt C CR H' D (setS S o A') (st.set o (some (Nets.does r c).1)) (N+1)∧KeepS H H' D S:=by
  have o2:=h.lt hS
  obtain ⟨kvs,hd,dd⟩:=h.dict
  obtain ⟨r0,h1,h2,h3,h4,h5⟩:=h.recs o A hS
  rw [hr] at h1
  cases h1
  obtain ⟨d1,d2,d3⟩:=does_ok h3 h4 c
  have hD' : H' D=some (.dK kvs):=P.keep D _ hd (h.nD o A hS)
  have tr:∀ {k:Nat} {B:RecAd},S k=some B→∀ x∈B.fp,∃ u,H x=some u:=fun hB=>by
    obtain ⟨r',_,g2,_⟩:=h.recs _ _ hB
    exact g2.there
  refine ⟨⟨⟨kvs,hD',dd.congr fun k=>?_⟩,by rw [List.length_set];exact h.len,fun k B hB=>?_,fun k hk=>?_,fun k k' B B' hne hB hB' x hx hx'=>?_,fun k B hB hx=>?_⟩,fun b u e nb ns=>P.keep b u e (ns o A hS)⟩
  · unfold setS
    by_cases z:k=o
    · rw [if_pos z,z,hS,Option.map_some,Option.map_some,P.p]
    · rw [if_neg z]
  · rw [st_set (by rw [h.len];exact o2)]
    unfold setS at hB
    by_cases z:k=o
    · rw [if_pos z] at hB ⊢
      cases hB
      exact ⟨_,rfl,P.rec_,d1,d2,by omega⟩
    · rw [if_neg z] at hB ⊢
      obtain ⟨r',g1,g2,g3,g4,g5⟩:=h.recs k B hB
      exact ⟨r',g1,g2.frame fun x hx u e=>P.keep x u e (h.sep k o B A z hB hS x hx),g3,g4,by omega⟩
  · unfold setS at hk
    rw [st_set (by rw [h.len];exact o2)]
    by_cases z:k=o
    · rw [if_pos z] at hk;cases hk
    · rw [if_neg z] at hk ⊢
      exact h.non k hk
  · unfold setS at hB hB'
    by_cases z:k=o
    · rw [if_pos z] at hB
      cases hB
      have z' : k'≠o:=fun y=>hne (z.trans y.symm)
      rw [if_neg z'] at hB'
      rcases P.fresh x hx with y | y
      · exact h.sep o k' A B' z'.symm hS hB' x y hx'
      · obtain ⟨u,e⟩:=tr hB' x hx'
        rw [y] at e;cases e
    · rw [if_neg z] at hB
      by_cases z' : k'=o
      · rw [if_pos z'] at hB'
        cases hB'
        rcases P.fresh x hx' with y | y
        · exact h.sep k o B A z hB hS x hx y
        · obtain ⟨u,e⟩:=tr hB x hx
          rw [y] at e;cases e
      · rw [if_neg z'] at hB'
        exact h.sep k k' B B' hne hB hB' x hx hx'
  · unfold setS at hB
    by_cases z:k=o
    · rw [if_pos z] at hB
      cases hB
      rcases P.fresh D hx with y | y
      · exact h.nD o A hS y
      · rw [hd] at y;cases y
    · rw [if_neg z] at hB
      exact h.nD k B hB hx
section
variable {P:Program} {w:World} {K:PySem.W.Frag} {mg:Str→Option Value} {base:Heap} {C CR CM:Addr}
def spCallEnd (K:PySem.W.Frag):Sp:=fun vs H Q _=>∃ (a:Addr) (L L2:List Nat) (p:Nat) (c:Nets.Call),vs=[.ref a,nV p]∧SqL K H a (nats L)∧L.drop p=rawOf c++L2∧Q (nV (p+(rawOf c).length)) H
theorem drop_at {L L2 M:List Nat} {p i:Nat} (h:L.drop p=M++L2) (hi:i<M.length):atI (nats L) ((p+i:Nat):Int)=some (nV (M.getD i 0)):=by
  refine atI_nat ?_
  have e:L[p+i]?=M[i]?:=by
    rw [← List.getElem?_drop,h,List.getElem?_append_left hi]
  rw [List.getElem?_map,e,List.getElem?_eq_getElem hi,List.getD_eq_getElem?_getD,List.getElem?_eq_getElem hi]
  rfl
theorem sc_call_end:FnScope ["calls", "position", "behind"] ["calls", "position"] (defScope s_call_end):=⟨rfl,rfl,rfl,by decide +kernel,rfl,by decide +kernel,by decide +kernel⟩
theorem ok_call_end {f:Addr} {fd:FuncData} (F:Fun K "call_end" "call_end" s_call_end f fd) (T:Txt K mg C CR) (TN:TxtN P w K mg):FnOk P w K mg base CX0 1 f fd ["calls", "position"] (spCallEnd K):=by
  refine F.ok sc_call_end (fun vs H Q E h=>?_) (fun cdv A0 outer s H vs Q E hr h=>?_)
  · obtain ⟨a,L,L2,p,c,rfl,_⟩:=h
    rfl
  · obtain ⟨a,L,L2,p,c,rfl,hL,hd,k⟩:=h
    have nd:=sc_call_end.nd
    have hu:=hu_of hr
    have a0:atI (nats L) (p:Int)=some (nV (kind c)):=drop_at (i:=0) hd (raw_pos c)
    refine ⟨_,(pss_cons (ps_set (i:=2) nd rfl (Or.inl rfl) (pe_op op_add (pe_op op_add (pv 1) pe_int) (pe_kget TN.k_NUMBER_COUNTS rfl (pe_ix ix_list (pv 0) (pv 1) (fun _ _=>rfl)) (fun _ _=>rfl)))) (pss_cons (ps_if (pt_cmpR op_eq (pe_ix ix_list (pv 0) (pv 1) (fun _ _=>rfl)) (pe_glV rfl T.c_RULE_CALL) (nomark _)) (pss_one (ps_set (i:=2) nd rfl (Or.inl rfl) (pe_op op_add (pe_op op_add (pv 2) pe_int) (pe_ix ix_list (pv 0) (pv 2) (fun _ _=>rfl))))) pss_nil) (pss_one (ps_ret (pv 2))))),?_⟩
    refine ⟨_,rfl,_,_,rfl,rfl,_,rfl,_,rfl,a,_,_,nV (kind c),rfl,rfl,hL,a0,.inl (kind c:Int),nV (cntOf c),rfl,kind_nc c,_,_,rfl,rfl,?_⟩
    refine ⟨_,rfl,_,rfl,a,_,_,nV (kind c),rfl,rfl,hL,a0,rfl,_,rfl,ite2 (fun c1=>?_) (fun c1=>?_)⟩
    · have c1:nV (kind c)=V.int 3:=of_decide_eq_true c1
      have c1:kind c=3:=by injection c1 with c1;omega
      obtain ⟨o,s,t,b,rfl⟩ : ∃ o s t b,c=.rule o s t b:=by
        cases c <;> first | exact ⟨_,_,_,_,rfl⟩ | (exfalso;simp [kind,rawOf] at c1)
      have a4:atI (nats L) (((p+4:Nat):Int))=some (nV b.length):=drop_at (i:=4) hd (by show 4<b.length+5;omega)
      have e4:(p:Int)+1+((cntOf (.rule o s t b):Nat):Int)=((p+4:Nat):Int):=by show (p:Int)+1+3=_;omega
      refine ⟨_,rfl,_,_,rfl,rfl,_,rfl,_,rfl,a,_,_,nV b.length,rfl,rfl,hL,(by rw [e4];exact a4),_,_,rfl,rfl,_,rfl,?_⟩
      refine qe k (vint ?_)
      rw [e4]
      show ((p+(b.length+5):Nat):Int)=_
      omega
    · have c1:¬ nV (kind c)=V.int 3:=fun z=>c1 (decide_eq_true z)
      have c1:kind c≠3:=fun z=>c1 (by rw [z];rfl)
      refine ⟨_,rfl,qe k (vint ?_)⟩
      rw [raw_len c c1]
      omega
def spOnRec (C CR:Addr) (ok:Nets.Call→Prop):Sp:=fun vs H Q _=>∃ (A:RecAd) (r:Nets.Rec) (La:Addr) (c:Nets.Call),vs=[.ref A.p,.ref La]∧ok c∧RecAt C CR H A r∧RecOk r∧RulesOk r∧r.rules.length≤1000∧H La=some (.lst (nats (rawOf c)))∧Ends_ C CR H A r c Q
def isRewrite:Nets.Call→Prop
  | .step _ _=>True
  | .run _ _=>True
  | _=>False
def isLook:Nets.Call→Prop
  | .pairs _=>True
  | .read _ _=>True
  | .name _ _=>True
  | .count _=>True
  | _=>False
def isBuild:Nets.Call→Prop
  | .symbol _ _=>True
  | .rule _ _ _ _=>True
  | .agent _ _=>True
  | .join _ _ _=>True
  | .part _ _=>True
  | _=>False
theorem raw_at {c:Nets.Call} {i:Nat} (h:i<(rawOf c).length):atI (nats (rawOf c)) (i:Int)=some (nV ((rawOf c).getD i 0)):=nats_at h
theorem sc_rewrite_record:FnScope ["record", "call"] ["record", "call"] (defScope s_rewrite_record):=⟨rfl,rfl,rfl,by decide +kernel,rfl,by decide +kernel,by decide +kernel⟩
theorem ok_rewrite_record {f:Addr} {fd:FuncData} (F:Fun K "rewrite_record" "rewrite_record" s_rewrite_record f fd) (T:Txt K mg C CR) (D_take_step:Df P w K mg base "take_step" ["record", "a"] 4 (spTakeStep C CR)) (D_run_steps:Df P w K mg base "run_steps" ["record", "n"] 4 (spRunSteps C CR)):FnOk P w K mg base CX0 5 f fd ["record", "call"] (spOnRec C CR isRewrite):=by
  refine F.ok sc_rewrite_record (fun vs H Q E h=>?_) (fun cdv A0 outer s H vs Q E hr h=>?_)
  · obtain ⟨A,r,La,c,rfl,_⟩:=h
    rfl
  · obtain ⟨A,r,La,c,rfl,hc,h1,ok,ro,h1000,hL,k⟩:=h
    refine ⟨_,(pss_cons (ps_if (pt_cmpR op_eq (pe_ix ix_list (pv 1) pe_int (fun _ _=>rfl)) (pe_glV rfl T.c_STEP_CALL) (nomark _)) (pss_one (ps_ret (pe_callD D_take_step (hr.mono (by decide)) rfl (pa_cons (pv 0) (pa_cons (pe_ix ix_list (pv 1) pe_int (fun _ _=>rfl)) pa_nil))))) pss_nil) (pss_one (ps_ret (pe_callD D_run_steps (hr.mono (by decide)) rfl (pa_cons (pv 0) (pa_cons (pe_ix ix_list (pv 1) pe_int (fun _ _=>rfl)) pa_nil)))))),?_⟩
    cases c <;> first | exact hc.elim | skip
    · rename_i o a
      refine ⟨_,rfl,La,_,0,_,rfl,rfl,SqL.of hL,raw_at (c:=.step o a) (i:=0) (by show 0<3;decide),rfl,_,rfl,?_⟩
      refine iteT ⟨_,rfl,_,rfl,La,_,2,_,rfl,rfl,SqL.of hL,raw_at (c:=.step o a) (i:=2) (by show 2<3;decide),A,r,a,rfl,h1,ok,ro,k⟩
    · rename_i o n
      refine ⟨_,rfl,La,_,0,_,rfl,rfl,SqL.of hL,raw_at (c:=.run o n) (i:=0) (by show 0<3;decide),rfl,_,rfl,?_⟩
      refine iteF ⟨_,rfl,_,rfl,La,_,2,_,rfl,rfl,SqL.of hL,raw_at (c:=.run o n) (i:=2) (by show 2<3;decide),A,r,n,rfl,h1,ok,ro,k⟩
theorem sc_look_at_record:FnScope ["record", "call", "number"] ["record", "call"] (defScope s_look_at_record):=⟨rfl,rfl,rfl,by decide +kernel,rfl,by decide +kernel,by decide +kernel⟩
theorem ok_look_at_record {f:Addr} {fd:FuncData} (F:Fun K "look_at_record" "look_at_record" s_look_at_record f fd) (T:Txt K mg C CR) (D_tell_pairs:Df P w K mg base "tell_pairs" ["record"] 3 (spTellPairs C CR)) (D_read_agent:Df P w K mg base "read_agent" ["record", "a"] 2 (spReadAgent C CR)) (D_read_name:Df P w K mg base "read_name" ["record", "n"] 2 (spReadName C CR)) (D_count_agents:Df P w K mg base "count_agents" ["record"] 1 (spCountAgents C CR)):FnOk P w K mg base CX0 5 f fd ["record", "call"] (spOnRec C CR isLook):=by
  refine F.ok sc_look_at_record (fun vs H Q E h=>?_) (fun cdv A0 outer s H vs Q E hr h=>?_)
  · obtain ⟨A,r,La,c,rfl,_⟩:=h
    rfl
  · obtain ⟨A,r,La,c,rfl,hc,h1,ok,ro,h1000,hL,k⟩:=h
    have nd:=sc_look_at_record.nd
    refine ⟨_,(pss_cons (ps_set (i:=2) nd rfl (Or.inl rfl) (pe_ix ix_list (pv 1) pe_int (fun _ _=>rfl))) (pss_cons (ps_if (pt_cmpR op_eq (pv 2) (pe_glV rfl T.c_PAIRS_CALL) (nomark _)) (pss_one (ps_ret (pe_callD D_tell_pairs (hr.mono (by decide)) rfl (pa_cons (pv 0) pa_nil)))) pss_nil) (pss_cons (ps_if (pt_cmpR op_eq (pv 2) (pe_glV rfl T.c_READ_CALL) (nomark _)) (pss_one (ps_ret (pe_callD D_read_agent (hr.mono (by decide)) rfl (pa_cons (pv 0) (pa_cons (pe_ix ix_list (pv 1) pe_int (fun _ _=>rfl)) pa_nil))))) pss_nil) (pss_cons (ps_if (pt_cmpR op_eq (pv 2) (pe_glV rfl T.c_NAME_CALL) (nomark _)) (pss_one (ps_ret (pe_callD D_read_name (hr.mono (by decide)) rfl (pa_cons (pv 0) (pa_cons (pe_ix ix_list (pv 1) pe_int (fun _ _=>rfl)) pa_nil))))) pss_nil) (pss_one (ps_ret (pe_callD D_count_agents (hr.mono (by decide)) rfl (pa_cons (pv 0) pa_nil)))))))),?_⟩
    cases c <;> first | exact hc.elim | skip
    · rename_i o
      refine ⟨_,rfl,La,_,0,_,rfl,rfl,SqL.of hL,raw_at (c:=.pairs o) (i:=0) (by show 0<2;decide),?_⟩
      refine ⟨_,rfl,rfl,_,rfl,iteT ⟨_,rfl,A,r,rfl,h1,ok,k⟩⟩
    · rename_i o a
      refine ⟨_,rfl,La,_,0,_,rfl,rfl,SqL.of hL,raw_at (c:=.read o a) (i:=0) (by show 0<3;decide),?_⟩
      refine ⟨_,rfl,rfl,_,rfl,iteF ⟨_,rfl,rfl,_,rfl,iteT ⟨_,rfl,_,rfl,La,_,2,_,rfl,rfl,SqL.of hL,raw_at (c:=.read o a) (i:=2) (by show 2<3;decide),A,r,a,rfl,h1,ok,k⟩⟩⟩
    · rename_i o n
      refine ⟨_,rfl,La,_,0,_,rfl,rfl,SqL.of hL,raw_at (c:=.name o n) (i:=0) (by show 0<3;decide),?_⟩
      refine ⟨_,rfl,rfl,_,rfl,iteF ⟨_,rfl,rfl,_,rfl,iteF ⟨_,rfl,rfl,_,rfl,iteT ⟨_,rfl,_,rfl,La,_,2,_,rfl,rfl,SqL.of hL,raw_at (c:=.name o n) (i:=2) (by show 2<3;decide),A,r,n,rfl,h1,ok,k⟩⟩⟩⟩
    · rename_i o
      refine ⟨_,rfl,La,_,0,_,rfl,rfl,SqL.of hL,raw_at (c:=.count o) (i:=0) (by show 0<2;decide),?_⟩
      refine ⟨_,rfl,rfl,_,rfl,iteF ⟨_,rfl,rfl,_,rfl,iteF ⟨_,rfl,rfl,_,rfl,iteF ⟨_,rfl,A,r,rfl,h1,ok,k⟩⟩⟩⟩
theorem cut_row (o s t:Nat) (b:List Nat):cutV (nats (rawOf (.rule o s t b))) (some 5) none=nats b:=by
  unfold cutV
  have e1:HT.sIx (nats (rawOf (.rule o s t b))).length 0 (some 5)=5:=by
    rw [show (some 5:Option Int)=some ((5:Nat):Int) from rfl,HT.sIx_nat,List.length_map]
    show min 5 (b.length+5)=5
    omega
  rw [HT.sIx_none,e1,List.take_of_length_le (by rw [List.length_drop];omega)]
  rfl
theorem sc_build_record:FnScope ["record", "call", "number"] ["record", "call"] (defScope s_build_record):=⟨rfl,rfl,rfl,by decide +kernel,rfl,by decide +kernel,by decide +kernel⟩
theorem ok_build_record {f:Addr} {fd:FuncData} (F:Fun K "build_record" "build_record" s_build_record f fd) (T:Txt K mg C CR) (D_add_symbol:Df P w K mg base "add_symbol" ["record", "n"] 1 (spAddSymbol C CR)) (D_add_rule:Df P w K mg base "add_rule" ["record", "s", "t", "row"] 5 (spAddRule C CR)) (D_add_agent:Df P w K mg base "add_agent" ["record", "s"] 2 (spAddAgent C CR)) (D_join_points:Df P w K mg base "join_points" ["record", "x", "y"] 2 (spJoin C CR)) (D_part_point:Df P w K mg base "part_point" ["record", "x"] 2 (spPart C CR)):FnOk P w K mg base CX0 6 f fd ["record", "call"] (spOnRec C CR isBuild):=by
  refine F.ok sc_build_record (fun vs H Q E h=>?_) (fun cdv A0 outer s H vs Q E hr h=>?_)
  · obtain ⟨A,r,La,c,rfl,_⟩:=h
    rfl
  · obtain ⟨A,r,La,c,rfl,hc,h1,ok,ro,h1000,hL,k⟩:=h
    have nd:=sc_build_record.nd
    refine ⟨_,(pss_cons (ps_set (i:=2) nd rfl (Or.inl rfl) (pe_ix ix_list (pv 1) pe_int (fun _ _=>rfl))) (pss_cons (ps_if (pt_cmpR op_eq (pv 2) (pe_glV rfl T.c_SYMBOL_CALL) (nomark _)) (pss_one (ps_ret (pe_callD D_add_symbol (hr.mono (by decide)) rfl (pa_cons (pv 0) (pa_cons (pe_ix ix_list (pv 1) pe_int (fun _ _=>rfl)) pa_nil))))) pss_nil) (pss_cons (ps_if (pt_cmpR op_eq (pv 2) (pe_glV rfl T.c_RULE_CALL) (nomark _)) (pss_one (ps_ret (pe_callD D_add_rule (hr.mono (by decide)) rfl (pa_cons (pv 0) (pa_cons (pe_ix ix_list (pv 1) pe_int (fun _ _=>rfl)) (pa_cons (pe_ix ix_list (pv 1) pe_int (fun _ _=>rfl)) (pa_cons (pe_slice sl_list (pv 1) (po_some pe_int) po_none) pa_nil))))))) pss_nil) (pss_cons (ps_if (pt_cmpR op_eq (pv 2) (pe_glV rfl T.c_AGENT_CALL) (nomark _)) (pss_one (ps_ret (pe_callD D_add_agent (hr.mono (by decide)) rfl (pa_cons (pv 0) (pa_cons (pe_ix ix_list (pv 1) pe_int (fun _ _=>rfl)) pa_nil))))) pss_nil) (pss_cons (ps_if (pt_cmpR op_eq (pv 2) (pe_glV rfl T.c_JOIN_CALL) (nomark _)) (pss_one (ps_ret (pe_callD D_join_points (hr.mono (by decide)) rfl (pa_cons (pv 0) (pa_cons (pe_ix ix_list (pv 1) pe_int (fun _ _=>rfl)) (pa_cons (pe_ix ix_list (pv 1) pe_int (fun _ _=>rfl)) pa_nil)))))) pss_nil) (pss_one (ps_ret (pe_callD D_part_point (hr.mono (by decide)) rfl (pa_cons (pv 0) (pa_cons (pe_ix ix_list (pv 1) pe_int (fun _ _=>rfl)) pa_nil)))))))))),?_⟩
    cases c <;> first | exact hc.elim | skip
    · rename_i o n
      refine ⟨_,rfl,La,_,0,_,rfl,rfl,SqL.of hL,raw_at (c:=.symbol o n) (i:=0) (by show 0<3;decide),?_⟩
      refine ⟨_,rfl,rfl,_,rfl,iteT ⟨_,rfl,_,rfl,La,_,2,_,rfl,rfl,SqL.of hL,raw_at (c:=.symbol o n) (i:=2) (by show 2<3;decide),A,r,n,rfl,h1,ok,k⟩⟩
    · rename_i o s t b
      refine ⟨_,rfl,La,_,0,_,rfl,rfl,SqL.of hL,raw_at (c:=.rule o s t b) (i:=0) (by show 0<b.length+5;omega),?_⟩
      refine ⟨_,rfl,rfl,_,rfl,iteF ⟨_,rfl,rfl,_,rfl,iteT ⟨_,rfl,_,rfl,La,_,2,_,rfl,rfl,SqL.of hL,raw_at (c:=.rule o s t b) (i:=2) (by show 2<b.length+5;omega),_,rfl,La,_,3,_,rfl,rfl,SqL.of hL,raw_at (c:=.rule o s t b) (i:=3) (by show 3<b.length+5;omega),_,rfl,_,rfl,La,_,rfl,SqL.of hL,fun p hp=>?_⟩⟩⟩
      rw [cut_row]
      have s1:Same H (upd H p (.lst (nats b))):=Same.upd (Same.refl _) hp
      refine ⟨A,r,s,t,p,b,rfl,h1.same s1,ok,h1000,upd_same,fun H' A' p' P' h' hp'=>?_⟩
      refine k H' A' p' ⟨P'.rec_,P'.p,fun x u e nx=>P'.keep x u (s1 _ _ e) nx,fun x hx=>?_⟩ h' (s1.free hp')
      rcases P'.fresh x hx with z | z
      · exact .inl z
      · exact .inr (s1.free z)
    · rename_i o n
      refine ⟨_,rfl,La,_,0,_,rfl,rfl,SqL.of hL,raw_at (c:=.agent o n) (i:=0) (by show 0<3;decide),?_⟩
      refine ⟨_,rfl,rfl,_,rfl,iteF ⟨_,rfl,rfl,_,rfl,iteF ⟨_,rfl,rfl,_,rfl,iteT ⟨_,rfl,_,rfl,La,_,2,_,rfl,rfl,SqL.of hL,raw_at (c:=.agent o n) (i:=2) (by show 2<3;decide),A,r,n,rfl,h1,ok,k⟩⟩⟩⟩
    · rename_i o x y
      refine ⟨_,rfl,La,_,0,_,rfl,rfl,SqL.of hL,raw_at (c:=.join o x y) (i:=0) (by show 0<4;decide),?_⟩
      refine ⟨_,rfl,rfl,_,rfl,iteF ⟨_,rfl,rfl,_,rfl,iteF ⟨_,rfl,rfl,_,rfl,iteF ⟨_,rfl,rfl,_,rfl,iteT ⟨_,rfl,_,rfl,La,_,2,_,rfl,rfl,SqL.of hL,raw_at (c:=.join o x y) (i:=2) (by show 2<4;decide),_,rfl,La,_,3,_,rfl,rfl,SqL.of hL,raw_at (c:=.join o x y) (i:=3) (by show 3<4;decide),A,r,x,y,rfl,h1,ok,k⟩⟩⟩⟩⟩
    · rename_i o x
      refine ⟨_,rfl,La,_,0,_,rfl,rfl,SqL.of hL,raw_at (c:=.part o x) (i:=0) (by show 0<3;decide),?_⟩
      refine ⟨_,rfl,rfl,_,rfl,iteF ⟨_,rfl,rfl,_,rfl,iteF ⟨_,rfl,rfl,_,rfl,iteF ⟨_,rfl,rfl,_,rfl,iteF ⟨_,rfl,_,rfl,La,_,2,_,rfl,rfl,SqL.of hL,raw_at (c:=.part o x) (i:=2) (by show 2<3;decide),A,r,x,rfl,h1,ok,k⟩⟩⟩⟩⟩
end
def EndsS (C CR:Addr) (H:Hp) (D:Addr) (S:Nat→Option RecAd) (st:Nets.State) (N:Nat) (x:Nets.Call) (Q:VK):Prop :=
  ∀ (H' : Hp) (S' : Nat→Option RecAd) (p:Addr),StAt C CR H' D S' (Nets.step st x).1 (N+1)→H' p=some (.lst (ansV (Nets.step st x).2))→H p=none→KeepS H H' D S →
    (∀ k A,S' k=some A→∀ b∈A.fp,(∃ k' A',S k'=some A'∧b∈A'.fp)∨H b=none)→Q (.ref p) H'
theorem KeepS.of_same {H H' : Hp} {D:Addr} {S:Nat→Option RecAd} (s:Same H H'):KeepS H H' D S:=fun b o e _ _=>s b o e
theorem endsS_same {C CR:Addr} {H H1:Hp} {D:Addr} {S:Nat→Option RecAd} {st:Nets.State} {N:Nat} {x:Nets.Call} {Q:VK} {a:Nets.Ans} {p:Addr} (h:StAt C CR H D S st N) (k:EndsS C CR H D S st N x Q) (e:Nets.step st x=(st,a)) (s:Same H H1) (hp:H1 p=none):Q (.ref p) (upd H1 p (.lst (ansV a))):=by
  have s2:Same H (upd H1 p (.lst (ansV a))):=Same.upd s hp
  refine k _ S p ?_ ?_ (s.free hp) (KeepS.of_same s2) fun k' A hA b hb=>.inl ⟨k',A,hA,hb⟩
  · rw [e];exact h.frame s2 (Nat.le_succ _)
  · rw [e];exact upd_same
def isRec (c:Nets.Call):Prop:=isRewrite c∨isLook c∨isBuild c
theorem step_rec {c:Nets.Call} (h:isRec c) (st:Nets.State):Nets.step st c=match st.getD c.on none with
    | none=>(st,Nets.says (-10))
    | some r=>(st.set c.on (some (Nets.does r c).1),(Nets.does r c).2):=by
  cases c <;> first | rfl | (rcases h with h | h | h <;> exact h.elim)
theorem is_rec {c:Nets.Call} (h1:kind c≠1) (h2:kind c≠13):isRec c∧1<(rawOf c).length∧(rawOf c).getD 1 0=c.on:=by
  cases c with
  | open_ o=>exact absurd rfl h1
  | same=>exact absurd rfl h2
  | symbol o n=>exact ⟨.inr (.inr trivial),by show 1<3;decide,rfl⟩
  | rule o s t b=>exact ⟨.inr (.inr trivial),by show 1<b.length+5;omega,rfl⟩
  | agent o s=>exact ⟨.inr (.inr trivial),by show 1<3;decide,rfl⟩
  | join o x y=>exact ⟨.inr (.inr trivial),by show 1<4;decide,rfl⟩
  | part o x=>exact ⟨.inr (.inr trivial),by show 1<3;decide,rfl⟩
  | pairs o=>exact ⟨.inr (.inl trivial),by show 1<2;decide,rfl⟩
  | step o a=>exact ⟨.inl trivial,by show 1<3;decide,rfl⟩
  | run o n=>exact ⟨.inl trivial,by show 1<3;decide,rfl⟩
  | read o a=>exact ⟨.inr (.inl trivial),by show 1<3;decide,rfl⟩
  | name o n=>exact ⟨.inr (.inl trivial),by show 1<3;decide,rfl⟩
  | count o=>exact ⟨.inr (.inl trivial),by show 1<2;decide,rfl⟩
theorem kind_open {c:Nets.Call} (h:kind c=1):∃ o,c=.open_ o:=by
  cases c <;> first | exact ⟨_,rfl⟩ | (exfalso;simp [kind,rawOf] at h)
theorem kind_same {c:Nets.Call} (h:kind c=13):c=.same:=by
  cases c <;> first | rfl | (exfalso;simp [kind,rawOf] at h)
theorem in_rewrite (c:Nets.Call):inV (nV (kind c)) [V.int 8,V.int 9]=true↔isRewrite c:=by
  cases c <;> first | exact ⟨fun _=>trivial,fun _=>rfl⟩ | exact ⟨fun h=>Bool.noConfusion (show false=true from h),fun h=>h.elim⟩
theorem in_look (c:Nets.Call):inV (nV (kind c)) [V.int 7,V.int 10,V.int 11,V.int 12]=true↔isLook c:=by
  cases c <;> first | exact ⟨fun _=>trivial,fun _=>rfl⟩ | exact ⟨fun h=>Bool.noConfusion (show false=true from h),fun h=>h.elim⟩
section
variable {P:Program} {w:World} {K:PySem.W.Frag} {mg:Str→Option Value} {base:Heap} {C CR CM:Addr}
def spMakeRecord (C CR:Addr):Sp:=fun vs H Q _=>∃ (D:Addr) (S:Nat→Option RecAd) (st:Nets.State) (N o:Nat),vs=[.ref D,nV o]∧StAt C CR H D S st N∧EndsS C CR H D S st N (.open_ o) Q
theorem sc_make_record:FnScope ["records", "o"] ["records", "o"] (defScope s_make_record):=⟨rfl,rfl,rfl,by decide +kernel,rfl,by decide +kernel,by decide +kernel⟩
theorem ok_make_record {f:Addr} {fd:FuncData} (F:Fun K "make_record" "make_record" s_make_record f fd) (T:Txt K mg C CR) (D_Record:Dm P w K mg base "Record" C ["self"] 1 (spRecInit C CR)):FnOk P w K mg base CX0 3 f fd ["records", "o"] (spMakeRecord C CR):=by
  refine F.ok sc_make_record (fun vs H Q E h=>?_) (fun cdv A0 outer s H vs Q E hr h=>?_)
  · obtain ⟨D,S,st,N,o,rfl,_⟩:=h
    rfl
  · obtain ⟨D,S,st,N,o,rfl,h1,k⟩:=h
    have hu:=hu_of hr
    refine ⟨_,(pss_cons (ps_if (pt_cmpR op_gt (pv 1) (pe_glV rfl T.c_HIGHEST_RECORD) (nomark _)) (pss_one (ps_ret (pe_lst (pa_cons (pe_glV rfl T.c_TOO_HIGH) pa_nil)))) pss_nil) (pss_cons (ps_dput hu (pv 0) (pv 1) (pe_makeD D_Record (hr.mono (by decide)) rfl) rfl) (pss_one (ps_ret (pe_lst (pa_cons pe_int pa_nil)))))),?_⟩
    refine ⟨_,rfl,_,_,rfl,rfl,_,rfl,ite2 (fun c=>?_) (fun c=>?_)⟩
    · have c:(1:Int)<o:=of_decide_eq_true c
      refine ⟨(by show 1≤sizeLine;decide),fun p hp=>?_⟩
      exact endsS_same (a:=Nets.says (-1)) h1 k (by show (if 1<o then _ else _)=_;rw [if_pos (by omega)]) (Same.refl _) hp
    · have c:¬ (1:Int)<o:=fun z=>c (decide_eq_true z)
      have e:Nets.step st (.open_ o)=(st.set o (some Nets.empty),Nets.says 0):=by show (if 1<o then _ else _)=_;rw [if_neg (by omega)]
      obtain ⟨kvs,hd,dd⟩:=h1.dict
      intro x dx hx hdx hxd
      refine ⟨x,dx,rfl,upd_same,fun H2 A hAp hR fr frs=>⟨rfl,?_⟩⟩
      have s2:Same H H2:=Same.made hx hdx fr
      have frs2:∀ b∈A.fp,H b=none:=fun b hb=>by
        rcases frs b hb with z | z
        · rw [z];exact hx
        · exact (upd_none (upd_none z).1).1
      have hd2:=s2 _ _ hd
      have lk:=dd.len_le (B:=2) fun n hn=>by
        cases hS:S n with
        | none=>rw [hS] at hn;cases hn
        | some B=>exact h1.lt hS
      refine ⟨_,rfl,_,rfl,D,_,rfl,DPut.k (k:=Sum.inl (o:Int)) hd2 (small1000 (by omega)),(by show 1≤sizeLine;decide),fun p hp=>?_⟩
      have q1:=upd_none hp
      have nDA:D∉A.fp:=fun z=>by have:=frs2 D z;rw [hd] at this;cases this
      have tr:∀ {k:Nat} {B:RecAd},S k=some B→∀ b∈B.fp,∃ u,H b=some u:=fun hB=>by
        obtain ⟨r',_,g2,_⟩:=h1.recs _ _ hB
        exact g2.there
      have s3:∀ b u,H2 b=some u→b≠D→upd (upd H2 D (.dK (putK kvs (.inl (o:Int)) (.ref x)))) p (.lst (ansV (Nets.says 0))) b=some u:=fun b u eb nb=>by
        rw [upd_ne (ne_of_none eb q1.1),upd_ne nb]
        exact eb
      refine k _ (setS S o A) p ?_ ?_ (s2.free q1.1) ?_ ?_
      · rw [e]
        refine ⟨⟨putK kvs (.inl (o:Int)) (.ref x),by rw [upd_ne q1.2.symm];exact upd_same,(dd.put o (.ref x)).congr fun n=>?_⟩,by rw [List.length_set];exact h1.len,fun n B hB=>?_,fun n hn=>?_,fun n n' B B' hne hB hB' b hb hb'=>?_,fun n B hB hb=>?_⟩
        · unfold setS
          by_cases z:n=o
          · rw [if_pos z,if_pos z,Option.map_some,hAp]
          · rw [if_neg z,if_neg z]
        · rw [st_set (by rw [h1.len];omega)]
          unfold setS at hB
          by_cases z:n=o
          · rw [if_pos z] at hB ⊢
            cases hB
            refine ⟨_,rfl,hR.frame fun b hb u eb=>s3 b u eb fun y=>nDA (by rw [← y];exact hb),empty_ok,fun R hR'=>absurd hR' (by simp [Nets.empty]),Nat.zero_le _⟩
          · rw [if_neg z] at hB ⊢
            obtain ⟨r',g1,g2,g3,g4,g5⟩:=h1.recs n B hB
            exact ⟨r',g1,(g2.same s2).frame fun b hb u eb=>s3 b u eb fun y=>h1.nD n B hB (by rw [← y];exact hb),g3,g4,by omega⟩
        · unfold setS at hn
          rw [st_set (by rw [h1.len];omega)]
          by_cases z:n=o
          · rw [if_pos z] at hn;cases hn
          · rw [if_neg z] at hn ⊢
            exact h1.non n hn
        · unfold setS at hB hB'
          by_cases z:n=o
          · rw [if_pos z] at hB
            cases hB
            rw [if_neg (fun y=>hne (z.trans y.symm))] at hB'
            obtain ⟨u,eb⟩:=tr hB' b hb'
            rw [frs2 b hb] at eb;cases eb
          · rw [if_neg z] at hB
            by_cases z' : n'=o
            · rw [if_pos z'] at hB'
              cases hB'
              obtain ⟨u,eb⟩:=tr hB b hb
              rw [frs2 b hb'] at eb;cases eb
            · rw [if_neg z'] at hB'
              exact h1.sep n n' B B' hne hB hB' b hb hb'
        · unfold setS at hB
          by_cases z:n=o
          · rw [if_pos z] at hB
            cases hB
            exact nDA hb
          · rw [if_neg z] at hB
            exact h1.nD n B hB hb
      · rw [e];exact upd_same
      · exact fun b u eb nb _=>s3 b u (s2 _ _ eb) nb
      · intro n B hB b hb
        unfold setS at hB
        by_cases z:n=o
        · rw [if_pos z] at hB
          cases hB
          exact .inr (frs2 b hb)
        · rw [if_neg z] at hB
          exact .inl ⟨n,B,hB,hb⟩
def spCompare (C CR:Addr):Sp:=fun vs H Q _=>∃ (D:Addr) (S:Nat→Option RecAd) (st:Nets.State) (N:Nat),vs=[.ref D]∧StAt C CR H D S st N∧EndsS C CR H D S st N .same Q
theorem sc_compare_records:FnScope ["records", "o"] ["records"] (defScope s_compare_records):=⟨rfl,rfl,rfl,by decide +kernel,rfl,by decide +kernel,by decide +kernel⟩
theorem ok_compare_records {f:Addr} {fd:FuncData} (F:Fun K "compare_records" "compare_records" s_compare_records f fd) (T:Txt K mg C CR) (D_tell_same:Df P w K mg base "tell_same" ["left", "right"] 6 (spTellSame C CR)):FnOk P w K mg base CX0 7 f fd ["records"] (spCompare C CR):=by
  refine F.ok sc_compare_records (fun vs H Q E h=>?_) (fun cdv A0 outer s H vs Q E hr h=>?_)
  · obtain ⟨D,S,st,N,rfl,_⟩:=h
    rfl
  · obtain ⟨D,S,st,N,rfl,h1,k⟩:=h
    have nd:=sc_compare_records.nd
    have hu:=hu_of hr
    obtain ⟨kvs,hd,dd⟩:=h1.dict
    have de:Nets.step st .same=(st,match st.getD 0 none,st.getD 1 none with
      | some r,some q=>Nets.tells [(Nets.same r q).toNat]
      | _,_=>Nets.says (-10)):=rfl
    refine ⟨_,(pss_cons (ps_for PassesOwn.never rfl (pi_range1 rfl T.b_range (pa_cons (pe_op op_add (pe_glV rfl T.c_HIGHEST_RECORD) pe_int) pa_nil)) (pg_name (i:=1) nd rfl (Or.inl rfl)) (pss_one (ps_if (pt_cmp (pc_dnotin hu (pv 1) (pv 0))) (pss_one (ps_ret (pe_lst (pa_cons (pe_glV rfl T.c_NO_RECORD) pa_nil)))) pss_nil))) (pss_one (ps_ret (pe_callD D_tell_same (hr.mono (by decide)) rfl (pa_cons (pe_dget hu (pv 0) pe_int (fun _ _=>rfl)) (pa_cons (pe_dget hu (pv 0) pe_int (fun _ _=>rfl)) pa_nil)))))),?_⟩
    refine ⟨_,_,rfl,rfl,2,rfl,by decide,by decide,for_range (n:=2) (fun j σ H'=>H'=H∧(∃ x,σ=[some (.ref D),x])∧∀ n,n<j→∃ A,S n=some A)
      ⟨rfl,⟨_,rfl⟩,fun n hn=>absurd hn (by omega)⟩ ?_ ?_⟩
    · rintro j σ H' hj ⟨rfl,⟨x,rfl⟩,hall⟩
      have e0:(0:Int)+(j:Int)=(j:Int):=by omega
      refine ⟨_,rfl,_,rfl,D,_,rfl,(by show DGet H' D (V.int (0+(j:Int))) _;rw [e0];exact DGet.k (k:=Sum.inl (j:Int)) hd),_,rfl,?_⟩
      rw [dd.val]
      cases hS:S j with
      | none =>
        refine iteT ⟨(by show 1≤sizeLine;decide),fun p hp=>?_⟩
        refine endsS_same (a:=Nets.says (-10)) h1 k ?_ (Same.refl _) hp
        rw [de]
        have hn:=h1.non j hS
        have hj2:j=0∨j=1:=by omega
        rcases hj2 with z | z
        · rw [z] at hn;rw [hn]
        · rw [z] at hn;rw [hn]
          cases st.getD 0 none <;> rfl
      | some A =>
        refine iteF ⟨rfl,⟨_,rfl⟩,fun n hn=>?_⟩
        by_cases z:n=j
        · exact ⟨A,by rw [z];exact hS⟩
        · exact hall n (by omega)
    · rintro σ H' ⟨rfl,⟨x,rfl⟩,hall⟩
      obtain ⟨A,hA⟩:=hall 0 (by omega)
      obtain ⟨B,hB⟩:=hall 1 (by omega)
      obtain ⟨r,g1,g2,g3,g4,g5⟩:=h1.recs 0 A hA
      obtain ⟨q,k1,k2,k3,k4,k5⟩:=h1.recs 1 B hB
      have ga:DGet H' D (V.int 0) (some (.ref A.p)):=by
        have z:=DGet.k (k:=Sum.inl ((0:Nat):Int)) hd
        rw [dd.val,hA] at z
        exact z
      have gb:DGet H' D (V.int 1) (some (.ref B.p)):=by
        have z:=DGet.k (k:=Sum.inl ((1:Nat):Int)) hd
        rw [dd.val,hB] at z
        exact z
      rw [g1,k1] at de
      have de:Nets.step st .same=(st,Nets.tells [(Nets.same r q).toNat]):=de
      refine ⟨_,rfl,D,.ref A.p,rfl,ga,_,rfl,D,.ref B.p,rfl,gb,A,B,r,q,rfl,g2,k2,g3,k3,h1.sep 0 1 A B (by decide) hA hB,fun H2 p s2 hp h2=>?_⟩
      refine k H2 S p ?_ ?_ hp (KeepS.of_same s2) fun k' A hA b hb=>.inl ⟨k',A,hA,hb⟩
      · rw [de];exact h1.frame s2 (Nat.le_succ _)
      · rw [de];exact h2
def spAnswerCall (C CR:Addr):Sp:=fun vs H Q _=>∃ (D La:Addr) (S:Nat→Option RecAd) (st:Nets.State) (N:Nat) (c:Nets.Call),vs=[.ref D,.ref La]∧StAt C CR H D S st N∧N≤1000∧H La=some (.lst (nats (rawOf c)))∧EndsS C CR H D S st N c Q
theorem sc_answer_call:FnScope ["records", "call"] ["records", "call"] (defScope s_answer_call):=⟨rfl,rfl,rfl,by decide +kernel,rfl,by decide +kernel,by decide +kernel⟩
theorem ok_answer_call {f:Addr} {fd:FuncData} (F:Fun K "answer_call" "answer_call" s_answer_call f fd) (T:Txt K mg C CR) (D_make_record:Df P w K mg base "make_record" ["records", "o"] 3 (spMakeRecord C CR)) (D_compare_records:Df P w K mg base "compare_records" ["records"] 7 (spCompare C CR)) (D_rewrite_record:Df P w K mg base "rewrite_record" ["record", "call"] 5 (spOnRec C CR isRewrite)) (D_look_at_record:Df P w K mg base "look_at_record" ["record", "call"] 5 (spOnRec C CR isLook))
    (D_build_record:Df P w K mg base "build_record" ["record", "call"] 6 (spOnRec C CR isBuild)):FnOk P w K mg base CX0 8 f fd ["records", "call"] (spAnswerCall C CR):=by
  refine F.ok sc_answer_call (fun vs H Q E h=>?_) (fun cdv A0 outer s H vs Q E hr h=>?_)
  · obtain ⟨D,La,S,st,N,c,rfl,_⟩:=h
    rfl
  · obtain ⟨D,La,S,st,N,c,rfl,h1,hN,hL,k⟩:=h
    have nd:=sc_answer_call.nd
    have hu:=hu_of hr
    obtain ⟨kvs,hd,dd⟩:=h1.dict
    have a0:atI (nats (rawOf c)) 0=some (nV (kind c)):=raw_at (i:=0) (raw_pos c)
    refine ⟨_,(pss_cons (ps_if (pt_cmpR op_eq (pe_ix ix_list (pv 1) pe_int (fun _ _=>rfl)) (pe_glV rfl T.c_OPEN_CALL) (nomark _)) (pss_one (ps_ret (pe_callD D_make_record (hr.mono (by decide)) rfl (pa_cons (pv 0) (pa_cons (pe_ix ix_list (pv 1) pe_int (fun _ _=>rfl)) pa_nil))))) pss_nil) (pss_cons (ps_if (pt_cmpR op_eq (pe_ix ix_list (pv 1) pe_int (fun _ _=>rfl)) (pe_glV rfl T.c_SAME_CALL) (nomark _)) (pss_one (ps_ret (pe_callD D_compare_records (hr.mono (by decide)) rfl (pa_cons (pv 0) pa_nil)))) pss_nil) (pss_cons (ps_if (pt_cmp (pc_dnotin hu (pe_ix ix_list (pv 1) pe_int (fun _ _=>rfl)) (pv 0))) (pss_one (ps_ret (pe_lst (pa_cons (pe_glV rfl T.c_NO_RECORD) pa_nil)))) pss_nil) (pss_cons (ps_if (pt_cmpR op_in_seq (pe_ix ix_list (pv 1) pe_int (fun _ _=>rfl)) (pe_tup (pa_cons (pe_glV rfl T.c_STEP_CALL) (pa_cons (pe_glV rfl T.c_RUN_CALL) pa_nil))) rfl) (pss_one (ps_ret (pe_callD D_rewrite_record (hr.mono (by decide)) rfl (pa_cons (pe_dget hu (pv 0) (pe_ix ix_list (pv 1) pe_int (fun _ _=>rfl)) (fun _ _=>rfl)) (pa_cons (pv 1) pa_nil))))) pss_nil) (pss_cons (ps_if (pt_cmpR op_in_seq (pe_ix ix_list (pv 1) pe_int (fun _ _=>rfl)) (pe_tup (pa_cons (pe_glV rfl T.c_PAIRS_CALL) (pa_cons (pe_glV rfl T.c_READ_CALL) (pa_cons (pe_glV rfl T.c_NAME_CALL) (pa_cons (pe_glV rfl T.c_COUNT_CALL) pa_nil))))) rfl) (pss_one (ps_ret (pe_callD D_look_at_record (hr.mono (by decide)) rfl (pa_cons (pe_dget hu (pv 0) (pe_ix ix_list (pv 1) pe_int (fun _ _=>rfl)) (fun _ _=>rfl)) (pa_cons (pv 1) pa_nil))))) pss_nil) (pss_one (ps_ret (pe_callD D_build_record (hr.mono (by decide)) rfl (pa_cons (pe_dget hu (pv 0) (pe_ix ix_list (pv 1) pe_int (fun _ _=>rfl)) (fun _ _=>rfl)) (pa_cons (pv 1) pa_nil)))))))))),?_⟩
    refine ⟨_,rfl,La,_,0,_,rfl,rfl,SqL.of hL,a0,rfl,_,rfl,ite2 (fun c1=>?_) (fun c1=>?_)⟩
    · have c1:nV (kind c)=V.int 1:=of_decide_eq_true c1
      have c1:kind c=1:=by injection c1 with c1;omega
      obtain ⟨o,rfl⟩:=kind_open c1
      refine ⟨_,rfl,_,rfl,La,_,1,_,rfl,rfl,SqL.of hL,raw_at (c:=.open_ o) (i:=1) (by show 1<2;decide),D,S,st,N,o,rfl,h1,k⟩
    · have c1:¬ nV (kind c)=V.int 1:=fun z=>c1 (decide_eq_true z)
      have c1:kind c≠1:=fun z=>c1 (by rw [z];rfl)
      refine ⟨_,rfl,La,_,0,_,rfl,rfl,SqL.of hL,a0,rfl,_,rfl,ite2 (fun c2=>?_) (fun c2=>?_)⟩
      · have c2:nV (kind c)=V.int 13:=of_decide_eq_true c2
        have c2:kind c=13:=by injection c2 with c2;omega
        have e:=kind_same c2
        subst e
        exact ⟨_,rfl,D,S,st,N,rfl,h1,k⟩
      · have c2:¬ nV (kind c)=V.int 13:=fun z=>c2 (decide_eq_true z)
        have c2:kind c≠13:=fun z=>c2 (by rw [z];rfl)
        obtain ⟨hrec,l1,e1⟩:=is_rec c1 c2
        have a1:atI (nats (rawOf c)) 1=some (nV c.on):=by rw [← e1];exact raw_at (i:=1) l1
        have de:=step_rec hrec st
        have gd:∀ {H' : Hp},H' D=some (.dK kvs)→DGet H' D (nV c.on) ((S c.on).map fun A=>V.ref A.p):=fun hd'=>by
          have z:=DGet.k (k:=Sum.inl (c.on:Int)) hd'
          rw [dd.val] at z
          exact z
        refine ⟨_,rfl,La,_,1,_,rfl,rfl,SqL.of hL,a1,_,rfl,D,_,rfl,gd hd,_,rfl,?_⟩
        cases hS:S c.on with
        | none =>
          rw [h1.non _ hS] at de
          have de:Nets.step st c=(st,Nets.says (-10)):=de
          refine iteT ⟨(by show 1≤sizeLine;decide),fun p hp=>?_⟩
          exact endsS_same (a:=Nets.says (-10)) h1 k de (Same.refl _) hp
        | some A =>
          obtain ⟨r,g1,g2,g3,g4,g5⟩:=h1.recs _ A hS
          rw [g1] at de
          have de:Nets.step st c=(st.set c.on (some (Nets.does r c).1),(Nets.does r c).2):=de
          have ends:∀ {H1:Hp},Same H H1→Ends_ C CR H1 A r c Q:=fun {H1} s1 H' A' p P' h' hp=>by
            obtain ⟨p1,p2⟩:=(h1.frame s1 (Nat.le_refl N)).post (c:=c) hS g1 P'
            refine k H' (setS S c.on A') p ?_ ?_ (s1.free hp) (fun b u eb nb ns=>p2 b u (s1 _ _ eb) nb ns) fun n B hB b hb=>?_
            · rw [de];exact p1
            · rw [de];exact h'
            · unfold setS at hB
              by_cases z:n=c.on
              · rw [if_pos z] at hB
                cases hB
                rcases P'.fresh b hb with y | y
                · exact .inl ⟨c.on,A,hS,y⟩
                · exact .inr (s1.free y)
              · rw [if_neg z] at hB
                exact .inl ⟨n,B,hB,hb⟩
          have gA:∀ {H1:Hp},Same H H1→DGet H1 D (nV c.on) (some (.ref A.p)):=fun s1=>by
            have z:=gd (s1 _ _ hd)
            rw [hS] at z
            exact z
          refine iteF ⟨_,rfl,La,_,0,_,rfl,rfl,SqL.of hL,a0,(by show 2≤sizeLine;decide),fun t ht=>?_⟩
          have s1:Same H (upd H t (.tup [V.int 8,V.int 9])):=Same.upd (Same.refl _) ht
          refine ⟨t,_,rfl,.inr (SqT.of upd_same),rfl,rfl,_,rfl,?_⟩
          generalize upd H t (.tup [V.int 8,V.int 9])=H1 at *
          have hL1:=s1 _ _ hL
          show if inV (nV (kind c)) [V.int 8,V.int 9]=true then _ else _
          refine ite2 (fun c3=>?_) (fun c3=>?_)
          · have c3:=(in_rewrite c).mp c3
            exact ⟨_,rfl,_,rfl,La,_,1,_,rfl,rfl,SqL.of hL1,a1,D,.ref A.p,rfl,gA s1,_,rfl,A,r,La,c,rfl,c3,g2.same s1,g3,g4,by omega,hL1,ends s1⟩
          · have c3:¬ isRewrite c:=fun z=>c3 ((in_rewrite c).mpr z)
            refine ⟨_,rfl,La,_,0,_,rfl,rfl,SqL.of hL1,a0,(by show 4≤sizeLine;decide),fun t2 ht2=>?_⟩
            have s2:Same H (upd H1 t2 (.tup [V.int 7,V.int 10,V.int 11,V.int 12])):=Same.upd s1 ht2
            refine ⟨t2,_,rfl,.inr (SqT.of upd_same),rfl,rfl,_,rfl,?_⟩
            generalize upd H1 t2 (.tup [V.int 7,V.int 10,V.int 11,V.int 12])=H2 at *
            have hL2:=s2 _ _ hL
            show if inV (nV (kind c)) [V.int 7,V.int 10,V.int 11,V.int 12]=true then _ else _
            refine ite2 (fun c4=>?_) (fun c4=>?_)
            · have c4:=(in_look c).mp c4
              exact ⟨_,rfl,_,rfl,La,_,1,_,rfl,rfl,SqL.of hL2,a1,D,.ref A.p,rfl,gA s2,_,rfl,A,r,La,c,rfl,c4,g2.same s2,g3,g4,by omega,hL2,ends s2⟩
            · have c4:¬ isLook c:=fun z=>c4 ((in_look c).mpr z)
              have c5:isBuild c:=by
                rcases hrec with z | z | z
                · exact absurd z c3
                · exact absurd z c4
                · exact z
              exact ⟨_,rfl,_,rfl,La,_,1,_,rfl,rfl,SqL.of hL2,a1,D,.ref A.p,rfl,gA s2,_,rfl,A,r,La,c,rfl,c5,g2.same s2,g3,g4,by omega,hL2,ends s2⟩
end
inductive Lines:List Nat→List Nets.Call→Prop
  | nil:Lines [] []
  | cons {c:Nets.Call} {M:List Nat} {cs:List Nets.Call}:Lines M cs→Lines (rawOf c++M) (c::cs)
def ansI (a:Nets.Ans):List Int:=a.code::a.nums.map fun (n:Nat)=>(n:Int)
theorem ansI_V (a:Nets.Ans):(ansI a).map V.int=ansV a:=by
  show V.int a.code::(natsI a.nums).map V.int=V.int a.code::nats a.nums
  rw [natsI_V]
def playedN:Nets.State→List Nets.Call→List (List Int)
  | _,[]=>[]
  | s,x::xs=>ansI (Nets.step s x).2::playedN (Nets.step s x).1 xs
theorem call_eq (p:Int) (r:List Int):PyFlat.call PyWqaqan.shape (p::r)=match PyWqaqan.shape p with
    | none=>none
    | some (n,k)=>if r.length<n then none else match PyFlat.rows k (r.drop n) with
      | none=>none
      | some (xs,t)=>some ((p::r.take n)::xs,t):=rfl
theorem call0 {p:Int} {n:Nat} {r:List Int} {c:List (List Int)} {t:List Int} (hs:PyWqaqan.shape p=some (n,0)) (h:PyFlat.call PyWqaqan.shape (p::r)=some (c,t)):n≤r.length∧c=[p::r.take n]∧t=r.drop n:=by
  rw [call_eq,hs] at h
  have h:(if r.length<n then none else some ([p::r.take n],r.drop n))=some (c,t):=h
  by_cases z:r.length<n
  · rw [if_pos z] at h;cases h
  · rw [if_neg z] at h
    cases h
    exact ⟨by omega,rfl,rfl⟩
theorem call1 {p:Int} {n:Nat} {r:List Int} {c:List (List Int)} {t:List Int} (hs:PyWqaqan.shape p=some (n,1)) (h:PyFlat.call PyWqaqan.shape (p::r)=some (c,t)):n≤r.length∧∃ m r',r.drop n=m::r'∧0≤m∧m.toNat≤r'.length∧c=[p::r.take n,r'.take m.toNat]∧t=r'.drop m.toNat:=by
  rw [call_eq,hs] at h
  have h:(if r.length<n then none else match PyFlat.rows 1 (r.drop n) with
    | none=>none
    | some (xs,t)=>some ((p::r.take n)::xs,t))=some (c,t):=h
  by_cases z:r.length<n
  · rw [if_pos z] at h;cases h
  · rw [if_neg z] at h
    refine ⟨by omega,?_⟩
    cases e:r.drop n with
    | nil=>rw [e] at h;cases h
    | cons m r' =>
      rw [e] at h
      have e2:PyFlat.rows 1 (m::r')=if 0≤m∧m.toNat≤r'.length then some ([r'.take m.toNat],r'.drop m.toNat) else none:=by
        show (match (if 0≤m∧m.toNat≤r'.length then some (r'.take m.toNat,r'.drop m.toNat) else none) with
          | none=>none
          | some (x,s)=>match PyFlat.rows 0 s with
            | none=>none
            | some (xs,t)=>some (x::xs,t))=_
        by_cases y:0≤m∧m.toNat≤r'.length
        · rw [if_pos y,if_pos y];rfl
        · rw [if_neg y,if_neg y]
      rw [e2] at h
      by_cases y:0≤m∧m.toNat≤r'.length
      · rw [if_pos y] at h
        cases h
        exact ⟨m,r',rfl,y.1,y.2,rfl,rfl⟩
      · rw [if_neg y] at h;cases h
theorem natsI_cons (p:Nat) (R:List Nat):natsI (p::R)=(p:Int)::natsI R:=rfl
theorem natsI_len (R:List Nat):(natsI R).length=R.length:=List.length_map ..
theorem call_one {p:Nat} {R:List Nat} {c:List (List Int)} {t:List Int} (h:PyFlat.call PyWqaqan.shape (natsI (p::R))=some (c,t)):∃ x L2,p::R=rawOf x++L2∧t=natsI L2∧NetNeutral.callOf (PyWqaqan.whole c)=some x:=by
  rw [natsI_cons] at h
  have g1:∀ {n:Nat},PyWqaqan.shape (p:Int)=some (n,0)→n=0→c=[[(p:Int)]]∧t=natsI R:=fun {n} hs e=>by
    subst e
    obtain ⟨_,h2,h3⟩:=call0 hs h
    exact ⟨h2,h3⟩
  have g2:PyWqaqan.shape (p:Int)=some (1,0)→∃ a R',R=a::R'∧c=[[(p:Int),(a:Int)]]∧t=natsI R':=fun hs=>by
    obtain ⟨h1,h2,h3⟩:=call0 hs h
    rw [natsI_len] at h1
    match R,h1,h2,h3 with
    | a::R',_,h2,h3=>exact ⟨a,R',rfl,h2,h3⟩
  have g3:PyWqaqan.shape (p:Int)=some (2,0)→∃ a b R',R=a::b::R'∧c=[[(p:Int),(a:Int),(b:Int)]]∧t=natsI R':=fun hs=>by
    obtain ⟨h1,h2,h3⟩:=call0 hs h
    rw [natsI_len] at h1
    match R,h1,h2,h3 with
    | [a],h1,_,_=>exact absurd h1 (by simp)
    | a::b::R',_,h2,h3=>exact ⟨a,b,R',rfl,h2,h3⟩
  have g4:PyWqaqan.shape (p:Int)=some (3,0)→∃ a b d R',R=a::b::d::R'∧c=[[(p:Int),(a:Int),(b:Int),(d:Int)]]∧t=natsI R':=fun hs=>by
    obtain ⟨h1,h2,h3⟩:=call0 hs h
    rw [natsI_len] at h1
    match R,h1,h2,h3 with
    | [a],h1,_,_=>exact absurd h1 (by simp)
    | [a,b],h1,_,_=>exact absurd h1 (by simp)
    | a::b::d::R',_,h2,h3=>exact ⟨a,b,d,R',rfl,h2,h3⟩
  by_cases h1:p=1
  · subst h1
    obtain ⟨a,R',rfl,rfl,rfl⟩:=g2 rfl
    exact ⟨.open_ a,R',rfl,rfl,rfl⟩
  by_cases h2:p=2
  · subst h2
    obtain ⟨a,b,R',rfl,rfl,rfl⟩:=g3 rfl
    exact ⟨.symbol a b,R',rfl,rfl,rfl⟩
  by_cases h3:p=3
  · subst h3
    obtain ⟨k1,m,r',k2,k3,k4,k5,k6⟩:=call1 (n:=3) rfl h
    rw [natsI_len] at k1
    match R,k1,k2,k5 with
    | [a],k1,_,_=>exact absurd k1 (by simp)
    | [a,b],k1,_,_=>exact absurd k1 (by simp)
    | [a,b,d],_,k2,_=>cases k2
    | a::b::d::m'::R',_,k2,k5 =>
      have k2:(m' : Int)::natsI R'=m::r':=k2
      injection k2 with e1 e2
      subst e1
      subst e2
      have em:((m' : Int)).toNat=m':=Int.toNat_natCast m'
      rw [em] at k4 k5 k6
      rw [natsI_len] at k4
      have tk:(natsI R').take m'=natsI (R'.take m'):=by unfold natsI;rw [List.map_take]
      have dr:(natsI R').drop m'=natsI (R'.drop m'):=by unfold natsI;rw [List.map_drop]
      refine ⟨.rule a b d (R'.take m'),R'.drop m',?_,by rw [k6,dr],?_⟩
      · show 3::a::b::d::m'::R'=3::a::b::d::(R'.take m').length::(R'.take m'++R'.drop m')
        rw [List.take_append_drop,List.length_take,Nat.min_eq_left k4]
      · rw [k5,tk]
        have e:NetNeutral.callOf (PyWqaqan.whole [(3:Int)::(natsI (a::b::d::m'::R')).take 3,natsI (R'.take m')])=some (.rule a b d (NetNeutral.nats (natsI (R'.take m')))):=rfl
        have e2:NetNeutral.nats (natsI (R'.take m'))=R'.take m':=by
          unfold NetNeutral.nats natsI
          rw [List.map_map]
          conv=>rhs;rw [← List.map_id (R'.take m')]
          exact List.map_congr_left fun n _=>Int.toNat_natCast n
        rw [e2] at e
        exact e
  by_cases h4:p=4
  · subst h4
    obtain ⟨a,b,R',rfl,rfl,rfl⟩:=g3 rfl
    exact ⟨.agent a b,R',rfl,rfl,rfl⟩
  by_cases h5:p=5
  · subst h5
    obtain ⟨a,b,d,R',rfl,rfl,rfl⟩:=g4 rfl
    exact ⟨.join a b d,R',rfl,rfl,rfl⟩
  by_cases h6:p=6
  · subst h6
    obtain ⟨a,b,R',rfl,rfl,rfl⟩:=g3 rfl
    exact ⟨.part a b,R',rfl,rfl,rfl⟩
  by_cases h7:p=7
  · subst h7
    obtain ⟨a,R',rfl,rfl,rfl⟩:=g2 rfl
    exact ⟨.pairs a,R',rfl,rfl,rfl⟩
  by_cases h8:p=8
  · subst h8
    obtain ⟨a,b,R',rfl,rfl,rfl⟩:=g3 rfl
    exact ⟨.step a b,R',rfl,rfl,rfl⟩
  by_cases h9:p=9
  · subst h9
    obtain ⟨a,b,R',rfl,rfl,rfl⟩:=g3 rfl
    exact ⟨.run a b,R',rfl,rfl,rfl⟩
  by_cases h10:p=10
  · subst h10
    obtain ⟨a,b,R',rfl,rfl,rfl⟩:=g3 rfl
    exact ⟨.read a b,R',rfl,rfl,rfl⟩
  by_cases h11:p=11
  · subst h11
    obtain ⟨a,b,R',rfl,rfl,rfl⟩:=g3 rfl
    exact ⟨.name a b,R',rfl,rfl,rfl⟩
  by_cases h12:p=12
  · subst h12
    obtain ⟨a,R',rfl,rfl,rfl⟩:=g2 rfl
    exact ⟨.count a,R',rfl,rfl,rfl⟩
  by_cases h13:p=13
  · subst h13
    obtain ⟨rfl,rfl⟩:=g1 (n:=0) rfl rfl
    exact ⟨.same,R,rfl,rfl,rfl⟩
  exfalso
  have hs:PyWqaqan.shape (p:Int)=none:=by
    unfold PyWqaqan.shape
    repeat rw [if_neg (by omega)]
  rw [call_eq,hs] at h
  cases h
theorem parse:∀ (f:Nat) (L:List Nat) (cs:List (List (List Int))),PyFlat.calls PyWqaqan.shape f (natsI L)=some cs→∃ xs,Lines L xs∧xs.length=cs.length∧∀ s,PyFlat.played NetNeutral.step s (cs.map PyWqaqan.whole)=playedN s xs
  | f,[],cs,h=>by
    have h:PyFlat.calls PyWqaqan.shape f []=some cs:=h
    have e:PyFlat.calls PyWqaqan.shape f []=some []:=by cases f <;> rfl
    rw [e] at h
    cases h
    exact ⟨[],.nil,rfl,fun s=>rfl⟩
  | 0,p::R,cs,h=>by cases h
  | f+1,p::R,cs,h=>by
    have h:(match PyFlat.call PyWqaqan.shape (natsI (p::R)) with
      | none=>none
      | some (c,t)=>match PyFlat.calls PyWqaqan.shape f t with
        | none=>none
        | some cs=>some (c::cs))=some cs:=h
    cases e:PyFlat.call PyWqaqan.shape (natsI (p::R)) with
    | none=>rw [e] at h;cases h
    | some ct =>
      obtain ⟨c,t⟩:=ct
      rw [e] at h
      have h:(match PyFlat.calls PyWqaqan.shape f t with
        | none=>none
        | some cs=>some (c::cs))=some cs:=h
      obtain ⟨x,L2,e1,e2,e3⟩:=call_one e
      cases e4:PyFlat.calls PyWqaqan.shape f t with
      | none=>rw [e4] at h;cases h
      | some cs1 =>
        rw [e4] at h
        cases h
        rw [e2] at e4
        obtain ⟨xs,h1,h2,h3⟩:=parse f L2 cs1 e4
        refine ⟨x::xs,by rw [e1];exact .cons h1,by rw [List.length_cons,List.length_cons,h2],fun s=>?_⟩
        show (NetNeutral.step s (PyWqaqan.whole c)).2::PyFlat.played NetNeutral.step (NetNeutral.step s (PyWqaqan.whole c)).1 (cs1.map PyWqaqan.whole)=ansI (Nets.step s x).2::playedN (Nets.step s x).1 xs
        have es:NetNeutral.step s (PyWqaqan.whole c)=((Nets.step s x).1,ansI (Nets.step s x).2):=by
          unfold NetNeutral.step
          rw [e3]
          rfl
        rw [es,h3]
theorem Lines.inv {L:List Nat} {xs:List Nets.Call} (h:Lines L xs) (hL:L≠[]):∃ c M cs,L=rawOf c++M∧xs=c::cs∧Lines M cs:=by
  cases h with
  | nil=>exact absurd rfl hL
  | cons h=>exact ⟨_,_,_,rfl,rfl,h⟩
theorem Lines.none {xs:List Nets.Call} (h:Lines [] xs):xs=[]:=by
  generalize e:([]:List Nat)=L at h
  cases h with
  | nil=>rfl
  | @cons c M cs h =>
    have:=raw_pos c
    have e:=congrArg List.length e
    rw [List.length_append] at e
    simp at e
    omega
theorem does_len (r:Nets.Rec) (c:Nets.Call):(Nets.does r c).2.nums.length≤64:=by
  have z:∀ (r:Nets.Rec) (i:Int),(r,Nets.says i).2.nums.length≤64:=fun r i=>Nat.zero_le _
  have o:∀ (r:Nets.Rec) (n:Nat),(r,Nets.tells [n]).2.nums.length≤64:=fun r n=>by show 1≤64;decide
  cases c with
  | open_ _=>exact o _ _
  | same=>exact o _ _
  | count _=>exact o _ _
  | symbol _ n=>unfold Nets.does;dsimp only;split <;> first | exact z _ _ | (split <;> first | exact z _ _ | exact o _ _)
  | rule _ s t b =>
    unfold Nets.does
    dsimp only
    split
    · exact z _ _
    · split
      · exact z _ _
      · split
        · exact z _ _
        · split
          · exact z _ _
          · split <;> exact z _ _
  | agent _ s=>unfold Nets.does;dsimp only;split <;> first | exact z _ _ | (split <;> first | exact z _ _ | exact o _ _)
  | join _ x y=>unfold Nets.does;dsimp only;split <;> first | exact z _ _ | (split <;> exact z _ _)
  | part _ x=>unfold Nets.does;dsimp only;split <;> first | exact z _ _ | (split <;> first | exact z _ _ | exact o _ _)
  | pairs _ =>
    show r.pairs.length≤64
    unfold Nets.Rec.pairs
    refine Nat.le_trans (List.length_filter_le _ _) ?_
    rw [List.length_range]
    exact Nat.le_refl _
  | step _ a =>
    unfold Nets.does
    dsimp only
    split
    · exact z _ _
    · split
      · exact z _ _
      · split <;> exact z _ _
  | run _ n =>
    have e:Nets.does r (.run 0 n)=_:=does_run r n
    show (Nets.does r (.run 0 n)).2.nums.length≤64
    rw [e]
    split
    · exact z _ _
    · split
      · exact z _ _
      · exact o _ _
  | read _ a =>
    unfold Nets.does
    dsimp only
    split
    · exact Nat.zero_le _
    · show (_::(List.range 4).map _).length≤64
      rw [List.length_cons,List.length_map,List.length_range]
      decide
  | name _ n =>
    unfold Nets.does
    dsimp only
    split
    · exact Nat.zero_le _
    · show 1≤64
      decide
theorem step_len (st:Nets.State) (c:Nets.Call):(ansI (Nets.step st c).2).length≤65:=by
  show (_::_).length≤65
  rw [List.length_cons,List.length_map]
  have main:(Nets.step st c).2.nums.length≤64:=by
    by_cases h1:kind c=1
    · obtain ⟨o,rfl⟩:=kind_open h1
      show (if 1<o then (st,Nets.says (-1)) else (st.set o (some Nets.empty),Nets.says 0)).2.nums.length≤64
      split <;> exact Nat.zero_le _
    · by_cases h2:kind c=13
      · rw [kind_same h2]
        show (match st.getD 0 none,st.getD 1 none with
          | some r,some q=>Nets.tells [(Nets.same r q).toNat]
          | _,_=>Nets.says (-10)).nums.length≤64
        split
        · show 1≤64;decide
        · exact Nat.zero_le _
      · rw [step_rec (is_rec h1 h2).1]
        cases st.getD c.on none with
        | none=>exact Nat.zero_le _
        | some r=>exact does_len r c
  omega
theorem cut_call {L M L2:List Nat} {p:Nat} (h:L.drop p=M++L2) (hp:p≤L.length):cutV (nats L) (some (p:Int)) (some ((p+M.length:Nat):Int))=nats M:=by
  have hl:M.length+L2.length=L.length - p:=by
    have e:=congrArg List.length h
    rw [List.length_drop,List.length_append] at e
    omega
  unfold cutV
  have el:(nats L).length=L.length:=List.length_map ..
  rw [HT.sIx_nat,HT.sIx_nat,el,Nat.min_eq_left hp,Nat.min_eq_left (by omega),Nat.add_sub_cancel_left]
  unfold nats
  rw [← List.map_drop,← List.map_take,h,List.take_left']
  rfl
section
variable {P:Program} {w:World} {K:PySem.W.Frag} {mg:Str→Option Value} {base:Heap} {C CR CM:Addr}
def spAns (K:PySem.W.Frag):Sp:=fun vs H Q _=>∃ (a:Addr) (L:List Nat) (xs:List Nets.Call),vs=[.ref a]∧SqL K H a (nats L)∧L.length≤30000∧Lines L xs∧xs.length≤200 ∧
  ∀ (H' : Hp) (p:Addr),H' p=some (.lst ((PyFlat.told (playedN Nets.start xs)).map V.int))→Q (.ref p) H'
theorem told_cons (a:List Int) (l:List (List Int)):PyFlat.told (a::l)=(a.length:Int)::a++PyFlat.told l:=by
  unfold PyFlat.told
  rw [List.flatMap_cons]
theorem sc_answers:FnScope ["calls", "records", "told", "position", "behind", "answer"] ["calls"] (defScope s_answers):=⟨rfl,rfl,rfl,by decide +kernel,rfl,by decide +kernel,by decide +kernel⟩
theorem ok_answers {f:Addr} {fd:FuncData} (F:Fun K "answers" "answers" s_answers f fd) (T:Txt K mg C CR) (D_call_end:Df P w K mg base "call_end" ["calls", "position"] 1 (spCallEnd K)) (D_answer_call:Df P w K mg base "answer_call" ["records", "call"] 8 (spAnswerCall C CR)):FnOk P w K mg base CX0 9 f fd ["calls"] (spAns K):=by
  refine F.ok sc_answers (fun vs H Q E h=>?_) (fun cdv A0 outer s H vs Q E hr h=>?_)
  · obtain ⟨a,L,xs,rfl,_⟩:=h
    rfl
  · obtain ⟨a,L,xs,rfl,hL,hlen,hlines,h200,k⟩:=h
    have nd:=sc_answers.nd
    have hu:=hu_of hr
    refine ⟨_,(pss_cons (ps_set (i:=1) nd rfl (Or.inl rfl) pe_dnewK) (pss_cons (ps_set (i:=2) nd rfl (Or.inl rfl) (pe_lst pa_nil)) (pss_cons (ps_set (i:=3) nd rfl (Or.inl rfl) pe_int) (pss_cons (ps_while PassesOwn.never (pt_cmpR op_lt (pv 3) (pe_callB call_len_seq (by rfl) T.b_len PySem.boot_len (pa_cons (pv 0) pa_nil)) (nomark _)) (pss_cons (ps_set (i:=4) nd rfl (Or.inl rfl) (pe_callD D_call_end (hr.mono (by decide)) rfl (pa_cons (pv 0) (pa_cons (pv 3) pa_nil)))) (pss_cons (ps_set (i:=5) nd rfl (Or.inl rfl) (pe_callD D_answer_call (hr.mono (by decide)) rfl (pa_cons (pv 1) (pa_cons (pe_slice sl_list (pv 0) (po_some (pv 3)) (po_some (pv 4))) pa_nil)))) (pss_cons (ps_expr (pe_bm PySem.F.plainAttrs_list PySem.F.slot_list_append PySem.F.type_list_append mt_append (pv 2) (pa_cons (pe_callB call_len_seq (by rfl) T.b_len PySem.boot_len (pa_cons (pv 5) pa_nil)) pa_nil))) (pss_cons (ps_expr (pe_bm PySem.F.plainAttrs_list PySem.F.slot_list_extend PySem.F.type_list_extend mt_extend (pv 2) (pa_cons (pv 5) pa_nil))) (pss_one (ps_set (i:=3) nd rfl (Or.inl rfl) (pv 4)))))))) (pss_one (ps_ret (pv 2))))))),?_⟩
    intro D hD
    refine ⟨Nat.zero_le _,fun Tl hTl=>?_⟩
    have t1:=upd_none hTl
    have nTD:Tl≠D:=t1.2
    have s0:Same H (upd (upd H D (.dK [])) Tl (.lst [])):=Same.upd (Same.upd (Same.refl _) hD) hTl
    refine ⟨fun m σ H'=>∃ (p:Nat) (xs1:List Nets.Call) (st:Nets.State) (S:Nat→Option RecAd) (n:Nat) (done:List Int) (x y:Option V),m=L.length - p∧p≤L.length∧Same H H'∧StAt C CR H' D S st n∧H' Tl=some (.lst (done.map V.int)) ∧
        (∀ k A,S k=some A→∀ b∈A.fp,H b=none∧b≠Tl)∧Lines (L.drop p) xs1∧n+xs1.length=xs.length∧PyFlat.told (playedN Nets.start xs)=done++PyFlat.told (playedN st xs1)∧done.length≤66*n∧σ=[some (.ref a),some (.ref D),some (.ref Tl),some (nV p),x,y],
      ⟨_,0,xs,Nets.start,fun _=>none,0,[],none,none,rfl,Nat.zero_le _,s0,⟨⟨[],by rw [upd_ne nTD.symm];exact upd_same,⟨List.nodup_nil,fun n=>rfl,fun k hk=>absurd hk (by simp)⟩⟩,rfl,fun o A h=>(by cases h),fun o _=>?_,fun o o' A A' _ h=>(by cases h),fun o A h=>(by cases h)⟩,upd_same,fun k A h=>(by cases h),hlines,by omega,rfl,Nat.zero_le _,rfl⟩,?_⟩
    · show ([none,none]:List (Option Nets.Rec)).getD o none=none
      match o with
      | 0=>rfl
      | 1=>rfl
      | n+2=>rfl
    rintro m σ H' ⟨p,xs1,st,S,n,done,x,y,rfl,hp,s1,hS,hT,hfp,hl,hn,htold,hdl,rfl⟩
    have hL1:SqL K H' a (nats L):=s1.seq hL
    refine ⟨_,rfl,_,rfl,a,_,rfl,.inl hL1,_,_,rfl,rfl,_,rfl,ite2 (fun c1=>?_) (fun c1=>?_)⟩
    · have c1:(p:Int)<((nats L).length:Int):=of_decide_eq_true c1
      rw [List.length_map] at c1
      obtain ⟨c,M,cs,e1,rfl,hl2⟩:=hl.inv (fun z=>by
        have:=congrArg List.length z
        rw [List.length_drop] at this
        simp at this
        omega)
      have rp:=raw_pos c
      have hlm:(rawOf c).length+M.length=L.length - p:=by
        have e:=congrArg List.length e1
        rw [List.length_drop,List.length_append] at e
        omega
      rw [List.length_cons] at hn
      refine ⟨fun σ' H2=>∃ (p' : Nat) (xs1:List Nets.Call) (st:Nets.State) (S:Nat→Option RecAd) (n:Nat) (done:List Int) (x y:Option V),L.length - p'<L.length - p∧p'≤L.length∧Same H H2∧StAt C CR H2 D S st n∧H2 Tl=some (.lst (done.map V.int)) ∧
        (∀ k A,S k=some A→∀ b∈A.fp,H b=none∧b≠Tl)∧Lines (L.drop p') xs1∧n+xs1.length=xs.length∧PyFlat.told (playedN Nets.start xs)=done++PyFlat.told (playedN st xs1)∧done.length≤66*n∧σ'=[some (.ref a),some (.ref D),some (.ref Tl),some (nV p'),x,y],
        fun σ' H2 ⟨p',xs1,st,S,n,done,x,y,h1,h2⟩=>⟨_,h1,p',xs1,st,S,n,done,x,y,rfl,h2⟩,?_⟩
      refine ⟨_,rfl,_,rfl,a,L,M,p,c,rfl,hL1,e1,?_⟩
      refine ⟨_,rfl,_,rfl,_,rfl,_,rfl,_,rfl,_,rfl,a,_,rfl,hL1,fun La hLa=>?_⟩
      rw [cut_call e1 (by omega)]
      have s2:Same H' (upd H' La (.lst (nats (rawOf c)))):=Same.upd (Same.refl _) hLa
      have hLa2:(upd H' La (.lst (nats (rawOf c)))) La=some (.lst (nats (rawOf c))):=upd_same
      generalize upd H' La (.lst (nats (rawOf c)))=H1 at *
      have s12:=s1.trans s2
      refine ⟨D,La,S,st,n,c,rfl,hS.frame s2 (Nat.le_refl _),by omega,hLa2,fun H2 S' pA hS' hpA hpn keep fr=>?_⟩
      have hT1:=s2 _ _ hT
      have hT2:H2 Tl=some (.lst (done.map V.int)):=keep Tl _ hT1 nTD fun k' A hA hb=>(hfp k' A hA Tl hb).2 rfl
      have s3:Same H H2:=fun b o e=>keep b o (s12 _ _ e) (ne_of_none e hD) fun k' A hA hb=>by
        have:=(hfp k' A hA b hb).1
        rw [e] at this;cases this
      have nTp:Tl≠pA:=ne_of_none hT1 hpn
      have sl:=step_len st c
      have ev:ansV (Nets.step st c).2=(ansI (Nets.step st c).2).map V.int:=(ansI_V _).symm
      rw [ev] at hpA
      have big:∀ {q:Nat},q≤20000→q<sizeLine:=fun hq=>Nat.lt_of_le_of_lt hq (by decide)
      refine ⟨_,rfl,.inl ⟨rfl,_,SqL.of hT2⟩,_,rfl,pA,_,rfl,.inl (SqL.of hpA),Tl,_,_,rfl,rfl,hT2,(by rw [List.length_map];exact big (by omega)),?_⟩
      have hT3:(upd H2 Tl (.lst (done.map V.int++[V.int (((ansI (Nets.step st c).2).map V.int).length:Int)]))) Tl=some (.lst (done.map V.int++[V.int (((ansI (Nets.step st c).2).map V.int).length:Int)])):=upd_same
      refine ⟨_,rfl,.inl ⟨rfl,_,SqL.of hT3⟩,_,rfl,Tl,pA,_,_,rfl,rfl,hT3,(by rw [upd_ne nTp.symm];exact hpA),(by rw [List.length_append,List.length_map,List.length_map,List.length_singleton];exact Nat.le_of_lt (big (by omega))),?_⟩
      refine ⟨_,rfl,?_⟩
      have keepT:∀ b o,H2 b=some o→b≠Tl→upd (upd H2 Tl (.lst (done.map V.int++[V.int (((ansI (Nets.step st c).2).map V.int).length:Int)]))) Tl (.lst (done.map V.int++[V.int (((ansI (Nets.step st c).2).map V.int).length:Int)]++(ansI (Nets.step st c).2).map V.int)) b=some o:=fun b o e nb=>by
        rw [upd_ne nb,upd_ne nb];exact e
      have hfp' : ∀ k A,S' k=some A→∀ b∈A.fp,H b=none∧b≠Tl:=fun k' A hA b hb=>by
        rcases fr k' A hA b hb with ⟨k2,A2,hA2,hb2⟩ | z
        · exact hfp k2 A2 hA2 b hb2
        · refine ⟨s12.free z,fun y=>?_⟩
          rw [y,hT1] at z;cases z
      refine ⟨p+(rawOf c).length,cs,(Nets.step st c).1,S',n+1,done++((ansI (Nets.step st c).2).length:Int)::ansI (Nets.step st c).2,_,_,by omega,by omega,fun b o e=>keepT b o (s3 _ _ e) (ne_of_none e t1.1),?_,?_,hfp',?_,by omega,?_,?_,rfl⟩
      · obtain ⟨kvs,hd,dd⟩:=hS'.dict
        refine ⟨⟨kvs,keepT _ _ hd nTD.symm,dd⟩,hS'.len,fun o A hA=>?_,hS'.non,hS'.sep,hS'.nD⟩
        obtain ⟨r,g1,g2,g3⟩:=hS'.recs o A hA
        exact ⟨r,g1,g2.frame fun b hb u e=>keepT b u e (hfp' o A hA b hb).2,g3⟩
      · rw [upd_same,List.map_append,List.map_cons,List.length_map,List.append_assoc]
        rfl
      · rw [← List.drop_drop,e1,List.drop_left']
        · exact hl2
        · rfl
      · rw [htold]
        show done++PyFlat.told (ansI (Nets.step st c).2::playedN (Nets.step st c).1 cs)=_
        rw [told_cons,List.append_assoc]
      · rw [List.length_append,List.length_cons]
        omega
    · have c1:¬ (p:Int)<((nats L).length:Int):=fun z=>c1 (decide_eq_true z)
      rw [List.length_map] at c1
      have ep:p=L.length:=by omega
      rw [ep,List.drop_length] at hl
      have e:=hl.none
      subst e
      refine ⟨_,rfl,k H' Tl ?_⟩
      rw [htold,hT]
      show _=some (HO.lst ((done++[]).map V.int))
      rw [List.append_nil]
end
def DefIn (K:PySem.W.Frag) (x:Str) (st:Stmt):Prop:=∃ f fd,PySem.W.nsIn K mainGlobals x=some (some (.ref f))∧Fun K x x st f fd
theorem DefIn.mk_ {K:PySem.W.Frag} {x:Str} {st:Stmt} {f:Addr} {oc:Value} {od an:Option Addr} {osl:Array (Option Value)} {kV doc pm cdv ct:Value} (a:PySem.W.nsIn K mainGlobals x=some (some (.ref f)))
    (l:K.lookup f=some ⟨oc,od,.func (PySem.W.fnOf x x (defArgs st) (defBody st) (defScope st) .none kV doc pm an cdv ct),osl⟩) (c:PySem.W.codeIn K cdv x=true) (k:PySem.W.keepIn K (.ref f)=true):DefIn K x st:=⟨f,_,a,fun_mk l c k⟩
def ClsIn (K:PySem.W.Frag) (x qual:Str) (st:Stmt) (N:Addr→Prop):Prop:=∃ C f fd,PySem.W.nsIn K mainGlobals x=some (some (.ref C))∧Cls K C∧Mk K C f∧Fun K "__init__" qual st f fd∧N C
theorem ClsIn.mk_ {K:PySem.W.Frag} {x qual:Str} {st:Stmt} {N:Addr→Prop} {C f:Addr} {oc:Value} {od an:Option Addr} {osl:Array (Option Value)} {kV doc pm cdv ct:Value} (a:PySem.W.nsIn K mainGlobals x=some (some (.ref C)))
    (i:PySem.W.findIn K (.ref C) "__init__" = some (some (.ref f))) (fn:PySem.W.isFn K (.ref f)=true)
    (l:K.lookup f=some ⟨oc,od,.func (PySem.W.fnOf "__init__" qual (defArgs st) (defBody st) (defScope st) .none kV doc pm an cdv ct),osl⟩) (c:PySem.W.codeIn K cdv qual=true) (k:PySem.W.keepIn K (.ref f)=true)
    (pg:PySem.W.plainGet K C Str.empty=true) (hd:PySem.W.hasDictIn K C=true) (po:PySem.W.plainOver K C=true) (sa:PySem.W.findIn K (.ref C) "__setattr__" = some (some (.builtin "object.__setattr__"))) (mk:PySem.W.makesIn K C=true) (kc:PySem.W.keepIn K (.ref C)=true)
    (n:N C):ClsIn K x qual st N:=⟨C,f,_,a,⟨pg,hd,po,sa⟩,⟨mk,i,fn,kc⟩,fun_mk l c k,n⟩
def ConstIn (K:PySem.W.Frag) (x:Str) (n:Int):Prop:=∃ t,PySem.W.nsIn K mainGlobals x=some (some (.int n t))
theorem ConstIn.mk_ {K:PySem.W.Frag} {x:Str} {n:Int} {t:Tok} (a:PySem.W.nsIn K mainGlobals x=some (some (.int n t))):ConstIn K x n:=⟨t,a⟩
theorem ConstIn.gl {K:PySem.W.Frag} {h:Heap} {mg:Str→Option Value} {x:Str} {n:Int} (X:K.In h) (G:h.Ns mainGlobals mg) (c:ConstIn K x n):GlV mg x (.int n):=by
  obtain ⟨t,a⟩:=c
  exact ⟨_,PySem.W.mg_of X G a,⟨t,rfl⟩⟩
def DictIn (P:Program) (w:World) (K:PySem.W.Frag) (x:Str) (kvs:List (Key × V)):Prop:=∃ d,PySem.W.nsIn K mainGlobals x=some (some (.ref d))∧KDict P w K d kvs
theorem DictIn.mk_ {P:Program} {w:World} {K:PySem.W.Frag} {x:Str} {kvs:List (Key × V)} {d:Addr} {o:Obj} (a:PySem.W.nsIn K mainGlobals x=some (some (.ref d))) (l:K.lookup d=some o) (r:∃ vs,o.IsDictOf (mixKind P w) vs∧KV kvs vs):DictIn P w K x kvs:=by
  obtain ⟨vs,h1,h2⟩:=r
  exact ⟨d,a,o,vs,l,h1,h2⟩
theorem nc_is {P:Program} {w:World} {t0 t1 t2 t3 t4 t5 t6 t7 t8 t9 t10 t11 t12 t13 t14 t15 t16 t17 t18 t19 t20 t21 t22 t23 t24 t25:Tok} {ep:Nat}:∃ vs,Obj.IsDictOf (mixKind P w) { cls:=.type "dict",data:=.dict #[{ hash:=1,key:=.int 1 t0,val:=.int 1 t1 },{ hash:=2,key:=.int 2 t2,val:=.int 2 t3 },{ hash:=3,key:=.int 3 t4,val:=.int 3 t5 },{ hash:=4,key:=.int 4 t6,val:=.int 2 t7 },{ hash:=5,key:=.int 5 t8,val:=.int 3 t9 },{ hash:=6,key:=.int 6 t10,val:=.int 2 t11 },{ hash:=7,key:=.int 7 t12,val:=.int 1 t13 },{ hash:=8,key:=.int 8 t14,val:=.int 2 t15 },{ hash:=9,key:=.int 9 t16,val:=.int 2 t17 },{ hash:=10,key:=.int 10 t18,val:=.int 2 t19 },{ hash:=11,key:=.int 11 t20,val:=.int 2 t21 },{ hash:=12,key:=.int 12 t22,val:=.int 1 t23 },{ hash:=13,key:=.int 13 t24,val:=.int 0 t25 }] ep } vs∧KV ncK vs:=by
  refine ⟨[(.inl 1,.int 1 t1),(.inl 2,.int 2 t3),(.inl 3,.int 3 t5),(.inl 4,.int 2 t7),(.inl 5,.int 3 t9),(.inl 6,.int 2 t11),(.inl 7,.int 1 t13),(.inl 8,.int 2 t15),(.inl 9,.int 2 t17),(.inl 10,.int 2 t19),(.inl 11,.int 2 t21),(.inl 12,.int 1 t23),(.inl 13,.int 0 t25)],⟨_,_,⟨rfl,rfl,rfl⟩,rfl,fun e he=>?_,(.cons rfl rfl (.cons rfl rfl (.cons rfl rfl (.cons rfl rfl (.cons rfl rfl (.cons rfl rfl (.cons rfl rfl (.cons rfl rfl (.cons rfl rfl (.cons rfl rfl (.cons rfl rfl (.cons rfl rfl (.cons rfl rfl .nil))))))))))))),?_⟩,(.cons ⟨rfl,_,rfl⟩ (.cons ⟨rfl,_,rfl⟩ (.cons ⟨rfl,_,rfl⟩ (.cons ⟨rfl,_,rfl⟩ (.cons ⟨rfl,_,rfl⟩ (.cons ⟨rfl,_,rfl⟩ (.cons ⟨rfl,_,rfl⟩ (.cons ⟨rfl,_,rfl⟩ (.cons ⟨rfl,_,rfl⟩ (.cons ⟨rfl,_,rfl⟩ (.cons ⟨rfl,_,rfl⟩ (.cons ⟨rfl,_,rfl⟩ (.cons ⟨rfl,_,rfl⟩ .nil)))))))))))))⟩
  · simp only [Array.mem_toArray,List.mem_toArray,List.mem_cons,List.not_mem_nil,or_false] at he
    rcases he with rfl | rfl | rfl | rfl | rfl | rfl | rfl | rfl | rfl | rfl | rfl | rfl | rfl
    · exact ⟨.inl 1,rfl,rfl⟩
    · exact ⟨.inl 2,rfl,rfl⟩
    · exact ⟨.inl 3,rfl,rfl⟩
    · exact ⟨.inl 4,rfl,rfl⟩
    · exact ⟨.inl 5,rfl,rfl⟩
    · exact ⟨.inl 6,rfl,rfl⟩
    · exact ⟨.inl 7,rfl,rfl⟩
    · exact ⟨.inl 8,rfl,rfl⟩
    · exact ⟨.inl 9,rfl,rfl⟩
    · exact ⟨.inl 10,rfl,rfl⟩
    · exact ⟨.inl 11,rfl,rfl⟩
    · exact ⟨.inl 12,rfl,rfl⟩
    · exact ⟨.inl 13,rfl,rfl⟩
  · show ([Sum.inl 1,Sum.inl 2,Sum.inl 3,Sum.inl 4,Sum.inl 5,Sum.inl 6,Sum.inl 7,Sum.inl 8,Sum.inl 9,Sum.inl 10,Sum.inl 11,Sum.inl 12,Sum.inl 13]:List Key).Nodup
    decide
theorem all_mk {P:Program} {w:World} {K:PySem.W.Frag} {h:Heap} {mg:Str→Option Value} {fa:Addr} (X:K.In h) (G:h.Ns mainGlobals mg) (hfa:mg "answers" = some (.ref fa))
    (c_Record:ClsIn K "Record" "Record.__init__" s_Record___init__ fun C=>NoAttr K C "more_ports"∧NoAttr K C "rules"∧NoAttr K C "agents"∧NoAttr K C "joined")
    (c_Rule:ClsIn K "Rule" "Rule.__init__" s_Rule___init__ fun C=>NoAttr K C "first"∧NoAttr K C "symbols"∧NoAttr K C "mates")
    (c_Matching:ClsIn K "Matching" "Matching.__init__" s_Matching___init__ fun C=>NoAttr K C "left"∧NoAttr K C "right"∧NoAttr K C "partners"∧NoAttr K C "taken"∧NoAttr K C "waiting")
    (k_PORTS_APART:ConstIn K "PORTS_APART" (4))
    (k_FIRST_NAME:ConstIn K "FIRST_NAME" (256))
    (k_NAME_COUNT:ConstIn K "NAME_COUNT" (16))
    (k_NOTHING:ConstIn K "NOTHING" (999))
    (k_TOO_HIGH:ConstIn K "TOO_HIGH" (-1))
    (k_FULL:ConstIn K "FULL" (-2))
    (k_NO_ROOM:ConstIn K "NO_ROOM" (-3))
    (k_NOT_THERE:ConstIn K "NOT_THERE" (-4))
    (k_TAKEN:ConstIn K "TAKEN" (-5))
    (k_NOT_JOINED:ConstIn K "NOT_JOINED" (-5))
    (k_NO_RULE_ROW:ConstIn K "NO_RULE_ROW" (-6))
    (k_UNEVEN:ConstIn K "UNEVEN" (-7))
    (k_NOT_WHOLE:ConstIn K "NOT_WHOLE" (-9))
    (k_NO_RECORD:ConstIn K "NO_RECORD" (-10))
    (k_SYMBOL_LIMIT:ConstIn K "SYMBOL_LIMIT" (16))
    (k_MORE_PORTS_LIMIT:ConstIn K "MORE_PORTS_LIMIT" (3))
    (k_NEW_AGENT_LIMIT:ConstIn K "NEW_AGENT_LIMIT" (6))
    (k_FIRST_OLD:ConstIn K "FIRST_OLD" (64))
    (k_SECOND_OLD:ConstIn K "SECOND_OLD" (80))
    (k_OLD_APART:ConstIn K "OLD_APART" (16))
    (k_AGENT_LIMIT:ConstIn K "AGENT_LIMIT" (64))
    (k_STEP_LIMIT:ConstIn K "STEP_LIMIT" (200))
    (k_NO_PAIR:ConstIn K "NO_PAIR" (-1))
    (k_OPEN_CALL:ConstIn K "OPEN_CALL" (1))
    (k_SYMBOL_CALL:ConstIn K "SYMBOL_CALL" (2))
    (k_RULE_CALL:ConstIn K "RULE_CALL" (3))
    (k_AGENT_CALL:ConstIn K "AGENT_CALL" (4))
    (k_JOIN_CALL:ConstIn K "JOIN_CALL" (5))
    (k_PAIRS_CALL:ConstIn K "PAIRS_CALL" (7))
    (k_STEP_CALL:ConstIn K "STEP_CALL" (8))
    (k_RUN_CALL:ConstIn K "RUN_CALL" (9))
    (k_READ_CALL:ConstIn K "READ_CALL" (10))
    (k_NAME_CALL:ConstIn K "NAME_CALL" (11))
    (k_COUNT_CALL:ConstIn K "COUNT_CALL" (12))
    (k_SAME_CALL:ConstIn K "SAME_CALL" (13))
    (k_HIGHEST_RECORD:ConstIn K "HIGHEST_RECORD" (1))
    (b_enumerate:PySem.W.nsIn K mainGlobals "enumerate" = some none)
    (b_len:PySem.W.nsIn K mainGlobals "len" = some none)
    (b_max:PySem.W.nsIn K mainGlobals "max" = some none)
    (b_min:PySem.W.nsIn K mainGlobals "min" = some none)
    (b_range:PySem.W.nsIn K mainGlobals "range" = some none)
    (b_sorted:PySem.W.nsIn K mainGlobals "sorted" = some none)
    (t_nc:DictIn P w K "NUMBER_COUNTS" ncK)
    (d_is_symbol:DefIn K "is_symbol" s_is_symbol)
    (d_is_point:DefIn K "is_point" s_is_point)
    (d_exchanged:DefIn K "exchanged" s_exchanged)
    (d_moved:DefIn K "moved" s_moved)
    (d_is_placed:DefIn K "is_placed" s_is_placed)
    (d_rule_key:DefIn K "rule_key" s_rule_key)
    (d_add_symbol:DefIn K "add_symbol" s_add_symbol)
    (d_lowest_free:DefIn K "lowest_free" s_lowest_free)
    (d_add_agent:DefIn K "add_agent" s_add_agent)
    (d_join_points:DefIn K "join_points" s_join_points)
    (d_part_point:DefIn K "part_point" s_part_point)
    (d_is_pair:DefIn K "is_pair" s_is_pair)
    (d_tell_pairs:DefIn K "tell_pairs" s_tell_pairs)
    (d_new_symbols:DefIn K "new_symbols" s_new_symbols)
    (d_wire_places:DefIn K "wire_places" s_wire_places)
    (d_needed_places:DefIn K "needed_places" s_needed_places)
    (d_is_rule_row:DefIn K "is_rule_row" s_is_rule_row)
    (d_find_mates:DefIn K "find_mates" s_find_mates)
    (d_keeps_old_wires:DefIn K "keeps_old_wires" s_keeps_old_wires)
    (d_can_follow:DefIn K "can_follow" s_can_follow)
    (d_is_even:DefIn K "is_even" s_is_even)
    (d_add_rule:DefIn K "add_rule" s_add_rule)
    (d_joined_to:DefIn K "joined_to" s_joined_to)
    (d_read_agent:DefIn K "read_agent" s_read_agent)
    (d_read_name:DefIn K "read_name" s_read_name)
    (d_count_agents:DefIn K "count_agents" s_count_agents)
    (d_is_whole:DefIn K "is_whole" s_is_whole)
    (d_facing_agent:DefIn K "facing_agent" s_facing_agent)
    (d_rule_at:DefIn K "rule_at" s_rule_at)
    (d_has_room:DefIn K "has_room" s_has_room)
    (d_lowest_pair:DefIn K "lowest_pair" s_lowest_pair)
    (d_far_place:DefIn K "far_place" s_far_place)
    (d_old_places:DefIn K "old_places" s_old_places)
    (d_inner_joins:DefIn K "inner_joins" s_inner_joins)
    (d_outer_ends:DefIn K "outer_ends" s_outer_ends)
    (d_take_out_pair:DefIn K "take_out_pair" s_take_out_pair)
    (d_bring_new_agents:DefIn K "bring_new_agents" s_bring_new_agents)
    (d_rewrite_pair:DefIn K "rewrite_pair" s_rewrite_pair)
    (d_take_step:DefIn K "take_step" s_take_step)
    (d_run_steps:DefIn K "run_steps" s_run_steps)
    (d_is_port:DefIn K "is_port" s_is_port)
    (d_names_fit:DefIn K "names_fit" s_names_fit)
    (d_match_agents:DefIn K "match_agents" s_match_agents)
    (d_match_points:DefIn K "match_points" s_match_points)
    (d_match_waiting:DefIn K "match_waiting" s_match_waiting)
    (d_match_part:DefIn K "match_part" s_match_part)
    (d_is_same_net:DefIn K "is_same_net" s_is_same_net)
    (d_tell_same:DefIn K "tell_same" s_tell_same)
    (d_call_end:DefIn K "call_end" s_call_end)
    (d_rewrite_record:DefIn K "rewrite_record" s_rewrite_record)
    (d_look_at_record:DefIn K "look_at_record" s_look_at_record)
    (d_build_record:DefIn K "build_record" s_build_record)
    (d_make_record:DefIn K "make_record" s_make_record)
    (d_compare_records:DefIn K "compare_records" s_compare_records)
    (d_answer_call:DefIn K "answer_call" s_answer_call)
    (d_answers:DefIn K "answers" s_answers)
    : ∃ fd:FuncData,(∀ (s:Shared) (us:List Value),us.length=(["calls"]:List Str).length→BindsTo s fd ⟨us,[]⟩ ((["calls"]:List Str).zip us))∧∀ base:Heap,K.In base→base.Ns mainGlobals mg→FnOk P w K mg base CX0 9 fa fd ["calls"] (spAns K):=by
  obtain ⟨C,fiC,fdiC,aC,clsC,mkC,FC,nC0,nC1,nC2,nC3⟩:=c_Record
  obtain ⟨CR,fiCR,fdiCR,aCR,clsCR,mkCR,FCR,nCR0,nCR1,nCR2⟩:=c_Rule
  obtain ⟨CM,fiCM,fdiCM,aCM,clsCM,mkCM,FCM,nCM0,nCM1,nCM2,nCM3,nCM4⟩:=c_Matching
  have T:Txt K mg C CR:=⟨clsC,clsCR,nC0,nC1,nC2,nC3,nCR0,nCR1,nCR2,(k_PORTS_APART.gl X G),(k_FIRST_NAME.gl X G),(k_NAME_COUNT.gl X G),(k_NOTHING.gl X G),(k_TOO_HIGH.gl X G),(k_FULL.gl X G),(k_NO_ROOM.gl X G),(k_NOT_THERE.gl X G),(k_TAKEN.gl X G),(k_NOT_JOINED.gl X G),(k_NO_RULE_ROW.gl X G),(k_UNEVEN.gl X G),(k_NOT_WHOLE.gl X G),(k_NO_RECORD.gl X G),(k_SYMBOL_LIMIT.gl X G),(k_MORE_PORTS_LIMIT.gl X G),(k_NEW_AGENT_LIMIT.gl X G),(k_FIRST_OLD.gl X G),(k_SECOND_OLD.gl X G),(k_OLD_APART.gl X G),(k_AGENT_LIMIT.gl X G),(k_STEP_LIMIT.gl X G),(k_NO_PAIR.gl X G),(k_OPEN_CALL.gl X G),(k_SYMBOL_CALL.gl X G),(k_RULE_CALL.gl X G),(k_AGENT_CALL.gl X G),(k_JOIN_CALL.gl X G),(k_PAIRS_CALL.gl X G),(k_STEP_CALL.gl X G),(k_RUN_CALL.gl X G),(k_READ_CALL.gl X G),(k_NAME_CALL.gl X G),(k_COUNT_CALL.gl X G),(k_SAME_CALL.gl X G),(k_HIGHEST_RECORD.gl X G),(PySem.W.mg_none_of X G b_enumerate),(PySem.W.mg_none_of X G b_len),(PySem.W.mg_none_of X G b_max),(PySem.W.mg_none_of X G b_min),(PySem.W.mg_none_of X G b_range),(PySem.W.mg_none_of X G b_sorted)⟩
  have TM:TxtM K CM:=⟨clsCM,nCM0,nCM1,nCM2,nCM3,nCM4⟩
  have TN:TxtN P w K mg:=⟨by obtain ⟨d,a,kd⟩:=t_nc;exact ⟨d,PySem.W.mg_of X G a,kd⟩⟩
  obtain ⟨f_is_symbol,fd_is_symbol,a_is_symbol,F_is_symbol⟩:=d_is_symbol
  have m_is_symbol:=PySem.W.mg_of X G a_is_symbol
  have bi_is_symbol:=F_is_symbol.binds (ps:=["record", "s"]) fun _ _ _ _ _ _ us hl=>match us,hl with | [_,_],_=>rfl
  obtain ⟨f_is_point,fd_is_point,a_is_point,F_is_point⟩:=d_is_point
  have m_is_point:=PySem.W.mg_of X G a_is_point
  have bi_is_point:=F_is_point.binds (ps:=["record", "point"]) fun _ _ _ _ _ _ us hl=>match us,hl with | [_,_],_=>rfl
  obtain ⟨f_exchanged,fd_exchanged,a_exchanged,F_exchanged⟩:=d_exchanged
  have m_exchanged:=PySem.W.mg_of X G a_exchanged
  have bi_exchanged:=F_exchanged.binds (ps:=["place"]) fun _ _ _ _ _ _ us hl=>match us,hl with | [_],_=>rfl
  obtain ⟨f_moved,fd_moved,a_moved,F_moved⟩:=d_moved
  have m_moved:=PySem.W.mg_of X G a_moved
  have bi_moved:=F_moved.binds (ps:=["place", "order"]) fun _ _ _ _ _ _ us hl=>match us,hl with | [_,_],_=>rfl
  obtain ⟨f_is_placed,fd_is_placed,a_is_placed,F_is_placed⟩:=d_is_placed
  have m_is_placed:=PySem.W.mg_of X G a_is_placed
  have bi_is_placed:=F_is_placed.binds (ps:=["place", "order"]) fun _ _ _ _ _ _ us hl=>match us,hl with | [_,_],_=>rfl
  obtain ⟨f_rule_key,fd_rule_key,a_rule_key,F_rule_key⟩:=d_rule_key
  have m_rule_key:=PySem.W.mg_of X G a_rule_key
  have bi_rule_key:=F_rule_key.binds (ps:=["s", "t"]) fun _ _ _ _ _ _ us hl=>match us,hl with | [_,_],_=>rfl
  obtain ⟨f_add_symbol,fd_add_symbol,a_add_symbol,F_add_symbol⟩:=d_add_symbol
  have m_add_symbol:=PySem.W.mg_of X G a_add_symbol
  have bi_add_symbol:=F_add_symbol.binds (ps:=["record", "n"]) fun _ _ _ _ _ _ us hl=>match us,hl with | [_,_],_=>rfl
  obtain ⟨f_lowest_free,fd_lowest_free,a_lowest_free,F_lowest_free⟩:=d_lowest_free
  have m_lowest_free:=PySem.W.mg_of X G a_lowest_free
  have bi_lowest_free:=F_lowest_free.binds (ps:=["record"]) fun _ _ _ _ _ _ us hl=>match us,hl with | [_],_=>rfl
  obtain ⟨f_add_agent,fd_add_agent,a_add_agent,F_add_agent⟩:=d_add_agent
  have m_add_agent:=PySem.W.mg_of X G a_add_agent
  have bi_add_agent:=F_add_agent.binds (ps:=["record", "s"]) fun _ _ _ _ _ _ us hl=>match us,hl with | [_,_],_=>rfl
  obtain ⟨f_join_points,fd_join_points,a_join_points,F_join_points⟩:=d_join_points
  have m_join_points:=PySem.W.mg_of X G a_join_points
  have bi_join_points:=F_join_points.binds (ps:=["record", "x", "y"]) fun _ _ _ _ _ _ us hl=>match us,hl with | [_,_,_],_=>rfl
  obtain ⟨f_part_point,fd_part_point,a_part_point,F_part_point⟩:=d_part_point
  have m_part_point:=PySem.W.mg_of X G a_part_point
  have bi_part_point:=F_part_point.binds (ps:=["record", "x"]) fun _ _ _ _ _ _ us hl=>match us,hl with | [_,_],_=>rfl
  obtain ⟨f_is_pair,fd_is_pair,a_is_pair,F_is_pair⟩:=d_is_pair
  have m_is_pair:=PySem.W.mg_of X G a_is_pair
  have bi_is_pair:=F_is_pair.binds (ps:=["record", "agent"]) fun _ _ _ _ _ _ us hl=>match us,hl with | [_,_],_=>rfl
  obtain ⟨f_tell_pairs,fd_tell_pairs,a_tell_pairs,F_tell_pairs⟩:=d_tell_pairs
  have m_tell_pairs:=PySem.W.mg_of X G a_tell_pairs
  have bi_tell_pairs:=F_tell_pairs.binds (ps:=["record"]) fun _ _ _ _ _ _ us hl=>match us,hl with | [_],_=>rfl
  obtain ⟨f_new_symbols,fd_new_symbols,a_new_symbols,F_new_symbols⟩:=d_new_symbols
  have m_new_symbols:=PySem.W.mg_of X G a_new_symbols
  have bi_new_symbols:=F_new_symbols.binds (ps:=["row"]) fun _ _ _ _ _ _ us hl=>match us,hl with | [_],_=>rfl
  obtain ⟨f_wire_places,fd_wire_places,a_wire_places,F_wire_places⟩:=d_wire_places
  have m_wire_places:=PySem.W.mg_of X G a_wire_places
  have bi_wire_places:=F_wire_places.binds (ps:=["row"]) fun _ _ _ _ _ _ us hl=>match us,hl with | [_],_=>rfl
  obtain ⟨f_needed_places,fd_needed_places,a_needed_places,F_needed_places⟩:=d_needed_places
  have m_needed_places:=PySem.W.mg_of X G a_needed_places
  have bi_needed_places:=F_needed_places.binds (ps:=["record", "s", "t", "symbols"]) fun _ _ _ _ _ _ us hl=>match us,hl with | [_,_,_,_],_=>rfl
  obtain ⟨f_is_rule_row,fd_is_rule_row,a_is_rule_row,F_is_rule_row⟩:=d_is_rule_row
  have m_is_rule_row:=PySem.W.mg_of X G a_is_rule_row
  have bi_is_rule_row:=F_is_rule_row.binds (ps:=["record", "s", "t", "row"]) fun _ _ _ _ _ _ us hl=>match us,hl with | [_,_,_,_],_=>rfl
  obtain ⟨f_find_mates,fd_find_mates,a_find_mates,F_find_mates⟩:=d_find_mates
  have m_find_mates:=PySem.W.mg_of X G a_find_mates
  have bi_find_mates:=F_find_mates.binds (ps:=["places"]) fun _ _ _ _ _ _ us hl=>match us,hl with | [_],_=>rfl
  obtain ⟨f_keeps_old_wires,fd_keeps_old_wires,a_keeps_old_wires,F_keeps_old_wires⟩:=d_keeps_old_wires
  have m_keeps_old_wires:=PySem.W.mg_of X G a_keeps_old_wires
  have bi_keeps_old_wires:=F_keeps_old_wires.binds (ps:=["mates"]) fun _ _ _ _ _ _ us hl=>match us,hl with | [_],_=>rfl
  obtain ⟨f_can_follow,fd_can_follow,a_can_follow,F_can_follow⟩:=d_can_follow
  have m_can_follow:=PySem.W.mg_of X G a_can_follow
  have bi_can_follow:=F_can_follow.binds (ps:=["symbols", "mates", "order", "agent"]) fun _ _ _ _ _ _ us hl=>match us,hl with | [_,_,_,_],_=>rfl
  obtain ⟨f_is_even,fd_is_even,a_is_even,F_is_even⟩:=d_is_even
  have m_is_even:=PySem.W.mg_of X G a_is_even
  have bi_is_even:=F_is_even.binds (ps:=["symbols", "mates"]) fun _ _ _ _ _ _ us hl=>match us,hl with | [_,_],_=>rfl
  obtain ⟨f_add_rule,fd_add_rule,a_add_rule,F_add_rule⟩:=d_add_rule
  have m_add_rule:=PySem.W.mg_of X G a_add_rule
  have bi_add_rule:=F_add_rule.binds (ps:=["record", "s", "t", "row"]) fun _ _ _ _ _ _ us hl=>match us,hl with | [_,_,_,_],_=>rfl
  obtain ⟨f_joined_to,fd_joined_to,a_joined_to,F_joined_to⟩:=d_joined_to
  have m_joined_to:=PySem.W.mg_of X G a_joined_to
  have bi_joined_to:=F_joined_to.binds (ps:=["record", "point"]) fun _ _ _ _ _ _ us hl=>match us,hl with | [_,_],_=>rfl
  obtain ⟨f_read_agent,fd_read_agent,a_read_agent,F_read_agent⟩:=d_read_agent
  have m_read_agent:=PySem.W.mg_of X G a_read_agent
  have bi_read_agent:=F_read_agent.binds (ps:=["record", "a"]) fun _ _ _ _ _ _ us hl=>match us,hl with | [_,_],_=>rfl
  obtain ⟨f_read_name,fd_read_name,a_read_name,F_read_name⟩:=d_read_name
  have m_read_name:=PySem.W.mg_of X G a_read_name
  have bi_read_name:=F_read_name.binds (ps:=["record", "n"]) fun _ _ _ _ _ _ us hl=>match us,hl with | [_,_],_=>rfl
  obtain ⟨f_count_agents,fd_count_agents,a_count_agents,F_count_agents⟩:=d_count_agents
  have m_count_agents:=PySem.W.mg_of X G a_count_agents
  have bi_count_agents:=F_count_agents.binds (ps:=["record"]) fun _ _ _ _ _ _ us hl=>match us,hl with | [_],_=>rfl
  obtain ⟨f_is_whole,fd_is_whole,a_is_whole,F_is_whole⟩:=d_is_whole
  have m_is_whole:=PySem.W.mg_of X G a_is_whole
  have bi_is_whole:=F_is_whole.binds (ps:=["record"]) fun _ _ _ _ _ _ us hl=>match us,hl with | [_],_=>rfl
  obtain ⟨f_facing_agent,fd_facing_agent,a_facing_agent,F_facing_agent⟩:=d_facing_agent
  have m_facing_agent:=PySem.W.mg_of X G a_facing_agent
  have bi_facing_agent:=F_facing_agent.binds (ps:=["record", "agent"]) fun _ _ _ _ _ _ us hl=>match us,hl with | [_,_],_=>rfl
  obtain ⟨f_rule_at,fd_rule_at,a_rule_at,F_rule_at⟩:=d_rule_at
  have m_rule_at:=PySem.W.mg_of X G a_rule_at
  have bi_rule_at:=F_rule_at.binds (ps:=["record", "lower"]) fun _ _ _ _ _ _ us hl=>match us,hl with | [_,_],_=>rfl
  obtain ⟨f_has_room,fd_has_room,a_has_room,F_has_room⟩:=d_has_room
  have m_has_room:=PySem.W.mg_of X G a_has_room
  have bi_has_room:=F_has_room.binds (ps:=["record", "lower"]) fun _ _ _ _ _ _ us hl=>match us,hl with | [_,_],_=>rfl
  obtain ⟨f_lowest_pair,fd_lowest_pair,a_lowest_pair,F_lowest_pair⟩:=d_lowest_pair
  have m_lowest_pair:=PySem.W.mg_of X G a_lowest_pair
  have bi_lowest_pair:=F_lowest_pair.binds (ps:=["record"]) fun _ _ _ _ _ _ us hl=>match us,hl with | [_],_=>rfl
  obtain ⟨f_far_place,fd_far_place,a_far_place,F_far_place⟩:=d_far_place
  have m_far_place:=PySem.W.mg_of X G a_far_place
  have bi_far_place:=F_far_place.binds (ps:=["mates", "onward", "place"]) fun _ _ _ _ _ _ us hl=>match us,hl with | [_,_,_],_=>rfl
  obtain ⟨f_old_places,fd_old_places,a_old_places,F_old_places⟩:=d_old_places
  have m_old_places:=PySem.W.mg_of X G a_old_places
  have bi_old_places:=F_old_places.binds (ps:=["record", "rule", "lower"]) fun _ _ _ _ _ _ us hl=>match us,hl with | [_,_,_],_=>rfl
  obtain ⟨f_inner_joins,fd_inner_joins,a_inner_joins,F_inner_joins⟩:=d_inner_joins
  have m_inner_joins:=PySem.W.mg_of X G a_inner_joins
  have bi_inner_joins:=F_inner_joins.binds (ps:=["record", "places"]) fun _ _ _ _ _ _ us hl=>match us,hl with | [_,_],_=>rfl
  obtain ⟨f_outer_ends,fd_outer_ends,a_outer_ends,F_outer_ends⟩:=d_outer_ends
  have m_outer_ends:=PySem.W.mg_of X G a_outer_ends
  have bi_outer_ends:=F_outer_ends.binds (ps:=["record", "places"]) fun _ _ _ _ _ _ us hl=>match us,hl with | [_,_],_=>rfl
  obtain ⟨f_take_out_pair,fd_take_out_pair,a_take_out_pair,F_take_out_pair⟩:=d_take_out_pair
  have m_take_out_pair:=PySem.W.mg_of X G a_take_out_pair
  have bi_take_out_pair:=F_take_out_pair.binds (ps:=["record", "lower", "places"]) fun _ _ _ _ _ _ us hl=>match us,hl with | [_,_,_],_=>rfl
  obtain ⟨f_bring_new_agents,fd_bring_new_agents,a_bring_new_agents,F_bring_new_agents⟩:=d_bring_new_agents
  have m_bring_new_agents:=PySem.W.mg_of X G a_bring_new_agents
  have bi_bring_new_agents:=F_bring_new_agents.binds (ps:=["record", "rule"]) fun _ _ _ _ _ _ us hl=>match us,hl with | [_,_],_=>rfl
  obtain ⟨f_rewrite_pair,fd_rewrite_pair,a_rewrite_pair,F_rewrite_pair⟩:=d_rewrite_pair
  have m_rewrite_pair:=PySem.W.mg_of X G a_rewrite_pair
  have bi_rewrite_pair:=F_rewrite_pair.binds (ps:=["record", "lower"]) fun _ _ _ _ _ _ us hl=>match us,hl with | [_,_],_=>rfl
  obtain ⟨f_take_step,fd_take_step,a_take_step,F_take_step⟩:=d_take_step
  have m_take_step:=PySem.W.mg_of X G a_take_step
  have bi_take_step:=F_take_step.binds (ps:=["record", "a"]) fun _ _ _ _ _ _ us hl=>match us,hl with | [_,_],_=>rfl
  obtain ⟨f_run_steps,fd_run_steps,a_run_steps,F_run_steps⟩:=d_run_steps
  have m_run_steps:=PySem.W.mg_of X G a_run_steps
  have bi_run_steps:=F_run_steps.binds (ps:=["record", "n"]) fun _ _ _ _ _ _ us hl=>match us,hl with | [_,_],_=>rfl
  obtain ⟨f_is_port,fd_is_port,a_is_port,F_is_port⟩:=d_is_port
  have m_is_port:=PySem.W.mg_of X G a_is_port
  have bi_is_port:=F_is_port.binds (ps:=["point"]) fun _ _ _ _ _ _ us hl=>match us,hl with | [_],_=>rfl
  obtain ⟨f_names_fit,fd_names_fit,a_names_fit,F_names_fit⟩:=d_names_fit
  have m_names_fit:=PySem.W.mg_of X G a_names_fit
  have bi_names_fit:=F_names_fit.binds (ps:=["left", "right"]) fun _ _ _ _ _ _ us hl=>match us,hl with | [_,_],_=>rfl
  obtain ⟨f_match_agents,fd_match_agents,a_match_agents,F_match_agents⟩:=d_match_agents
  have m_match_agents:=PySem.W.mg_of X G a_match_agents
  have bi_match_agents:=F_match_agents.binds (ps:=["matching", "agent", "other"]) fun _ _ _ _ _ _ us hl=>match us,hl with | [_,_,_],_=>rfl
  obtain ⟨f_match_points,fd_match_points,a_match_points,F_match_points⟩:=d_match_points
  have m_match_points:=PySem.W.mg_of X G a_match_points
  have bi_match_points:=F_match_points.binds (ps:=["matching", "x", "y"]) fun _ _ _ _ _ _ us hl=>match us,hl with | [_,_,_],_=>rfl
  obtain ⟨f_match_waiting,fd_match_waiting,a_match_waiting,F_match_waiting⟩:=d_match_waiting
  have m_match_waiting:=PySem.W.mg_of X G a_match_waiting
  have bi_match_waiting:=F_match_waiting.binds (ps:=["matching"]) fun _ _ _ _ _ _ us hl=>match us,hl with | [_],_=>rfl
  obtain ⟨f_match_part,fd_match_part,a_match_part,F_match_part⟩:=d_match_part
  have m_match_part:=PySem.W.mg_of X G a_match_part
  have bi_match_part:=F_match_part.binds (ps:=["left", "right", "agent", "taken"]) fun _ _ _ _ _ _ us hl=>match us,hl with | [_,_,_,_],_=>rfl
  obtain ⟨f_is_same_net,fd_is_same_net,a_is_same_net,F_is_same_net⟩:=d_is_same_net
  have m_is_same_net:=PySem.W.mg_of X G a_is_same_net
  have bi_is_same_net:=F_is_same_net.binds (ps:=["left", "right"]) fun _ _ _ _ _ _ us hl=>match us,hl with | [_,_],_=>rfl
  obtain ⟨f_tell_same,fd_tell_same,a_tell_same,F_tell_same⟩:=d_tell_same
  have m_tell_same:=PySem.W.mg_of X G a_tell_same
  have bi_tell_same:=F_tell_same.binds (ps:=["left", "right"]) fun _ _ _ _ _ _ us hl=>match us,hl with | [_,_],_=>rfl
  obtain ⟨f_call_end,fd_call_end,a_call_end,F_call_end⟩:=d_call_end
  have m_call_end:=PySem.W.mg_of X G a_call_end
  have bi_call_end:=F_call_end.binds (ps:=["calls", "position"]) fun _ _ _ _ _ _ us hl=>match us,hl with | [_,_],_=>rfl
  obtain ⟨f_rewrite_record,fd_rewrite_record,a_rewrite_record,F_rewrite_record⟩:=d_rewrite_record
  have m_rewrite_record:=PySem.W.mg_of X G a_rewrite_record
  have bi_rewrite_record:=F_rewrite_record.binds (ps:=["record", "call"]) fun _ _ _ _ _ _ us hl=>match us,hl with | [_,_],_=>rfl
  obtain ⟨f_look_at_record,fd_look_at_record,a_look_at_record,F_look_at_record⟩:=d_look_at_record
  have m_look_at_record:=PySem.W.mg_of X G a_look_at_record
  have bi_look_at_record:=F_look_at_record.binds (ps:=["record", "call"]) fun _ _ _ _ _ _ us hl=>match us,hl with | [_,_],_=>rfl
  obtain ⟨f_build_record,fd_build_record,a_build_record,F_build_record⟩:=d_build_record
  have m_build_record:=PySem.W.mg_of X G a_build_record
  have bi_build_record:=F_build_record.binds (ps:=["record", "call"]) fun _ _ _ _ _ _ us hl=>match us,hl with | [_,_],_=>rfl
  obtain ⟨f_make_record,fd_make_record,a_make_record,F_make_record⟩:=d_make_record
  have m_make_record:=PySem.W.mg_of X G a_make_record
  have bi_make_record:=F_make_record.binds (ps:=["records", "o"]) fun _ _ _ _ _ _ us hl=>match us,hl with | [_,_],_=>rfl
  obtain ⟨f_compare_records,fd_compare_records,a_compare_records,F_compare_records⟩:=d_compare_records
  have m_compare_records:=PySem.W.mg_of X G a_compare_records
  have bi_compare_records:=F_compare_records.binds (ps:=["records"]) fun _ _ _ _ _ _ us hl=>match us,hl with | [_],_=>rfl
  obtain ⟨f_answer_call,fd_answer_call,a_answer_call,F_answer_call⟩:=d_answer_call
  have m_answer_call:=PySem.W.mg_of X G a_answer_call
  have bi_answer_call:=F_answer_call.binds (ps:=["records", "call"]) fun _ _ _ _ _ _ us hl=>match us,hl with | [_,_],_=>rfl
  obtain ⟨f_answers,fd_answers,a_answers,F_answers⟩:=d_answers
  have m_answers:=PySem.W.mg_of X G a_answers
  have bi_answers:=F_answers.binds (ps:=["calls"]) fun _ _ _ _ _ _ us hl=>match us,hl with | [_],_=>rfl
  have e:=hfa.symm.trans m_answers
  cases e
  refine ⟨fd_answers,fun s us hu=>?_,fun base _ _=>?_⟩
  · obtain ⟨_,_,kV,doc,pm,an,cdv,ct,_,e,_,_⟩:=F_answers.ex
    subst e
    exact match us,hu with | [_],_=>.of_eq rfl
  have D_is_symbol:Df P w K mg base "is_symbol" ["record", "s"] 1 (spIsSymbol C CR):=⟨f_is_symbol,fd_is_symbol,ok_is_symbol F_is_symbol T,m_is_symbol,F_is_symbol.kp,bi_is_symbol⟩
  have D_is_point:Df P w K mg base "is_point" ["record", "point"] 1 (spIsPoint C CR):=⟨f_is_point,fd_is_point,ok_is_point F_is_point T,m_is_point,F_is_point.kp,bi_is_point⟩
  have D_exchanged:Df P w K mg base "exchanged" ["place"] 1 spExchanged:=⟨f_exchanged,fd_exchanged,ok_exchanged F_exchanged T,m_exchanged,F_exchanged.kp,bi_exchanged⟩
  have D_moved:Df P w K mg base "moved" ["place", "order"] 2 spMoved:=⟨f_moved,fd_moved,ok_moved F_moved T D_exchanged,m_moved,F_moved.kp,bi_moved⟩
  have D_is_placed:Df P w K mg base "is_placed" ["place", "order"] 1 spIsPlaced:=⟨f_is_placed,fd_is_placed,ok_is_placed F_is_placed T,m_is_placed,F_is_placed.kp,bi_is_placed⟩
  have D_rule_key:Df P w K mg base "rule_key" ["s", "t"] 1 spRuleKey:=⟨f_rule_key,fd_rule_key,ok_rule_key F_rule_key T,m_rule_key,F_rule_key.kp,bi_rule_key⟩
  have D_add_symbol:Df P w K mg base "add_symbol" ["record", "n"] 1 (spAddSymbol C CR):=⟨f_add_symbol,fd_add_symbol,ok_add_symbol F_add_symbol T,m_add_symbol,F_add_symbol.kp,bi_add_symbol⟩
  have D_lowest_free:Df P w K mg base "lowest_free" ["record"] 1 (spLowestFree C CR):=⟨f_lowest_free,fd_lowest_free,ok_lowest_free F_lowest_free T,m_lowest_free,F_lowest_free.kp,bi_lowest_free⟩
  have D_add_agent:Df P w K mg base "add_agent" ["record", "s"] 2 (spAddAgent C CR):=⟨f_add_agent,fd_add_agent,ok_add_agent F_add_agent T D_is_symbol D_lowest_free,m_add_agent,F_add_agent.kp,bi_add_agent⟩
  have D_join_points:Df P w K mg base "join_points" ["record", "x", "y"] 2 (spJoin C CR):=⟨f_join_points,fd_join_points,ok_join_points F_join_points T D_is_point,m_join_points,F_join_points.kp,bi_join_points⟩
  have D_part_point:Df P w K mg base "part_point" ["record", "x"] 2 (spPart C CR):=⟨f_part_point,fd_part_point,ok_part_point F_part_point T D_is_point,m_part_point,F_part_point.kp,bi_part_point⟩
  have D_is_pair:Df P w K mg base "is_pair" ["record", "agent"] 2 (spIsPair C CR):=⟨f_is_pair,fd_is_pair,ok_is_pair F_is_pair T D_rule_key,m_is_pair,F_is_pair.kp,bi_is_pair⟩
  have D_tell_pairs:Df P w K mg base "tell_pairs" ["record"] 3 (spTellPairs C CR):=⟨f_tell_pairs,fd_tell_pairs,ok_tell_pairs F_tell_pairs T D_is_pair,m_tell_pairs,F_tell_pairs.kp,bi_tell_pairs⟩
  have D_new_symbols:Df P w K mg base "new_symbols" ["row"] 1 spNewSymbols:=⟨f_new_symbols,fd_new_symbols,ok_new_symbols F_new_symbols T,m_new_symbols,F_new_symbols.kp,bi_new_symbols⟩
  have D_wire_places:Df P w K mg base "wire_places" ["row"] 1 spWirePlaces:=⟨f_wire_places,fd_wire_places,ok_wire_places F_wire_places T,m_wire_places,F_wire_places.kp,bi_wire_places⟩
  have D_needed_places:Df P w K mg base "needed_places" ["record", "s", "t", "symbols"] 1 (spNeeded C CR):=⟨f_needed_places,fd_needed_places,ok_needed_places F_needed_places T,m_needed_places,F_needed_places.kp,bi_needed_places⟩
  have D_is_rule_row:Df P w K mg base "is_rule_row" ["record", "s", "t", "row"] 2 (spIsRuleRow C CR):=⟨f_is_rule_row,fd_is_rule_row,ok_is_rule_row F_is_rule_row T D_new_symbols D_wire_places D_is_symbol D_needed_places,m_is_rule_row,F_is_rule_row.kp,bi_is_rule_row⟩
  have D_find_mates:Df P w K mg base "find_mates" ["places"] 1 spFindMates:=⟨f_find_mates,fd_find_mates,ok_find_mates F_find_mates T,m_find_mates,F_find_mates.kp,bi_find_mates⟩
  have D_Rule:Dm P w K mg base "Rule" CR ["self", "first", "symbols", "mates"] 1 (spRuleInit CR):=⟨fiCR,fdiCR,mkCR,ok_rule_init FCR T,PySem.W.mg_of X G aCR,FCR.binds (ps:=["self", "first", "symbols", "mates"]) fun _ _ _ _ _ _ us hl=>match us,hl with | [_,_,_,_],_=>rfl⟩
  have D_Record:Dm P w K mg base "Record" C ["self"] 1 (spRecInit C CR):=⟨fiC,fdiC,mkC,ok_rec_init FC T,PySem.W.mg_of X G aC,FC.binds (ps:=["self"]) fun _ _ _ _ _ _ us hl=>match us,hl with | [_],_=>rfl⟩
  have D_keeps_old_wires:Df P w K mg base "keeps_old_wires" ["mates"] 2 spKeepsOld:=⟨f_keeps_old_wires,fd_keeps_old_wires,ok_keeps_old_wires F_keeps_old_wires T D_exchanged,m_keeps_old_wires,F_keeps_old_wires.kp,bi_keeps_old_wires⟩
  have D_can_follow:Df P w K mg base "can_follow" ["symbols", "mates", "order", "agent"] 3 spCanFollow:=⟨f_can_follow,fd_can_follow,ok_can_follow F_can_follow T D_is_placed D_moved,m_can_follow,F_can_follow.kp,bi_can_follow⟩
  have D_is_even:Df P w K mg base "is_even" ["symbols", "mates"] 4 spIsEven:=⟨f_is_even,fd_is_even,ok_is_even F_is_even T D_keeps_old_wires D_can_follow,m_is_even,F_is_even.kp,bi_is_even⟩
  have D_add_rule:Df P w K mg base "add_rule" ["record", "s", "t", "row"] 5 (spAddRule C CR):=⟨f_add_rule,fd_add_rule,ok_add_rule F_add_rule T D_is_symbol D_rule_key D_is_rule_row D_new_symbols D_wire_places D_find_mates D_is_even D_Rule,m_add_rule,F_add_rule.kp,bi_add_rule⟩
  have D_joined_to:Df P w K mg base "joined_to" ["record", "point"] 1 (spJoined C):=⟨f_joined_to,fd_joined_to,ok_joined_to F_joined_to T,m_joined_to,F_joined_to.kp,bi_joined_to⟩
  have D_read_agent:Df P w K mg base "read_agent" ["record", "a"] 2 (spReadAgent C CR):=⟨f_read_agent,fd_read_agent,ok_read_agent F_read_agent T D_joined_to,m_read_agent,F_read_agent.kp,bi_read_agent⟩
  have D_read_name:Df P w K mg base "read_name" ["record", "n"] 2 (spReadName C CR):=⟨f_read_name,fd_read_name,ok_read_name F_read_name T D_joined_to,m_read_name,F_read_name.kp,bi_read_name⟩
  have D_count_agents:Df P w K mg base "count_agents" ["record"] 1 (spCountAgents C CR):=⟨f_count_agents,fd_count_agents,ok_count_agents F_count_agents T,m_count_agents,F_count_agents.kp,bi_count_agents⟩
  have D_is_whole:Df P w K mg base "is_whole" ["record"] 1 (spIsWhole C CR):=⟨f_is_whole,fd_is_whole,ok_is_whole F_is_whole T,m_is_whole,F_is_whole.kp,bi_is_whole⟩
  have D_facing_agent:Df P w K mg base "facing_agent" ["record", "agent"] 1 (spFacing C):=⟨f_facing_agent,fd_facing_agent,ok_facing_agent F_facing_agent T,m_facing_agent,F_facing_agent.kp,bi_facing_agent⟩
  have D_rule_at:Df P w K mg base "rule_at" ["record", "lower"] 2 (spRuleAt C CR):=⟨f_rule_at,fd_rule_at,ok_rule_at F_rule_at T D_facing_agent D_rule_key,m_rule_at,F_rule_at.kp,bi_rule_at⟩
  have D_has_room:Df P w K mg base "has_room" ["record", "lower"] 3 (spHasRoom C CR):=⟨f_has_room,fd_has_room,ok_has_room F_has_room T D_rule_at,m_has_room,F_has_room.kp,bi_has_room⟩
  have D_lowest_pair:Df P w K mg base "lowest_pair" ["record"] 3 (spLowestPair C CR):=⟨f_lowest_pair,fd_lowest_pair,ok_lowest_pair F_lowest_pair T D_is_pair,m_lowest_pair,F_lowest_pair.kp,bi_lowest_pair⟩
  have D_far_place:Df P w K mg base "far_place" ["mates", "onward", "place"] 1 spFar:=⟨f_far_place,fd_far_place,ok_far_place F_far_place T,m_far_place,F_far_place.kp,bi_far_place⟩
  have D_old_places:Df P w K mg base "old_places" ["record", "rule", "lower"] 2 (spOldPlaces C CR):=⟨f_old_places,fd_old_places,ok_old_places F_old_places T D_facing_agent,m_old_places,F_old_places.kp,bi_old_places⟩
  have D_inner_joins:Df P w K mg base "inner_joins" ["record", "places"] 1 (spInner C CR):=⟨f_inner_joins,fd_inner_joins,ok_inner_joins F_inner_joins T,m_inner_joins,F_inner_joins.kp,bi_inner_joins⟩
  have D_outer_ends:Df P w K mg base "outer_ends" ["record", "places"] 1 (spOuter C CR):=⟨f_outer_ends,fd_outer_ends,ok_outer_ends F_outer_ends T,m_outer_ends,F_outer_ends.kp,bi_outer_ends⟩
  have D_take_out_pair:Df P w K mg base "take_out_pair" ["record", "lower", "places"] 2 (spTakeOut C CR):=⟨f_take_out_pair,fd_take_out_pair,ok_take_out_pair F_take_out_pair T D_facing_agent,m_take_out_pair,F_take_out_pair.kp,bi_take_out_pair⟩
  have D_bring_new_agents:Df P w K mg base "bring_new_agents" ["record", "rule"] 2 (spBring C CR):=⟨f_bring_new_agents,fd_bring_new_agents,ok_bring_new_agents F_bring_new_agents T D_lowest_free,m_bring_new_agents,F_bring_new_agents.kp,bi_bring_new_agents⟩
  have D_rewrite_pair:Df P w K mg base "rewrite_pair" ["record", "lower"] 3 (spRewrite C CR):=⟨f_rewrite_pair,fd_rewrite_pair,ok_rewrite_pair F_rewrite_pair T D_rule_at D_old_places D_inner_joins D_outer_ends D_take_out_pair D_bring_new_agents D_far_place,m_rewrite_pair,F_rewrite_pair.kp,bi_rewrite_pair⟩
  have D_take_step:Df P w K mg base "take_step" ["record", "a"] 4 (spTakeStep C CR):=⟨f_take_step,fd_take_step,ok_take_step F_take_step T D_is_pair D_is_whole D_has_room D_rewrite_pair,m_take_step,F_take_step.kp,bi_take_step⟩
  have D_run_steps:Df P w K mg base "run_steps" ["record", "n"] 4 (spRunSteps C CR):=⟨f_run_steps,fd_run_steps,ok_run_steps F_run_steps T D_lowest_pair D_is_whole D_has_room D_rewrite_pair,m_run_steps,F_run_steps.kp,bi_run_steps⟩
  have D_is_port:Df P w K mg base "is_port" ["point"] 1 spIsPort:=⟨f_is_port,fd_is_port,ok_is_port F_is_port T,m_is_port,F_is_port.kp,bi_is_port⟩
  have D_names_fit:Df P w K mg base "names_fit" ["left", "right"] 2 (spNamesFit C):=⟨f_names_fit,fd_names_fit,ok_names_fit F_names_fit T D_joined_to D_is_port,m_names_fit,F_names_fit.kp,bi_names_fit⟩
  have D_Matching:Dm P w K mg base "Matching" CM ["self", "left", "right"] 1 (spMatInit CM):=⟨fiCM,fdiCM,mkCM,ok_mat_init FCM TM,PySem.W.mg_of X G aCM,FCM.binds (ps:=["self", "left", "right"]) fun _ _ _ _ _ _ us hl=>match us,hl with | [_,_,_],_=>rfl⟩
  have D_match_agents:Df P w K mg base "match_agents" ["matching", "agent", "other"] 1 (spMatchAgents C CM):=⟨f_match_agents,fd_match_agents,ok_match_agents F_match_agents T TM,m_match_agents,F_match_agents.kp,bi_match_agents⟩
  have D_match_points:Df P w K mg base "match_points" ["matching", "x", "y"] 2 (spMatchPoints C CM):=⟨f_match_points,fd_match_points,ok_match_points F_match_points T D_is_port D_match_agents,m_match_points,F_match_points.kp,bi_match_points⟩
  have D_match_waiting:Df P w K mg base "match_waiting" ["matching"] 3 (spMatchWaiting C CM):=⟨f_match_waiting,fd_match_waiting,ok_match_waiting F_match_waiting T TM D_joined_to D_match_points,m_match_waiting,F_match_waiting.kp,bi_match_waiting⟩
  have D_match_part:Df P w K mg base "match_part" ["left", "right", "agent", "taken"] 4 (spMatchPart C CM):=⟨f_match_part,fd_match_part,ok_match_part F_match_part T TM D_Matching D_match_agents D_match_waiting,m_match_part,F_match_part.kp,bi_match_part⟩
  have D_is_same_net:Df P w K mg base "is_same_net" ["left", "right"] 5 (spIsSame C CR):=⟨f_is_same_net,fd_is_same_net,ok_is_same_net F_is_same_net T TM D_names_fit D_match_part,m_is_same_net,F_is_same_net.kp,bi_is_same_net⟩
  have D_tell_same:Df P w K mg base "tell_same" ["left", "right"] 6 (spTellSame C CR):=⟨f_tell_same,fd_tell_same,ok_tell_same F_tell_same T D_is_same_net,m_tell_same,F_tell_same.kp,bi_tell_same⟩
  have D_call_end:Df P w K mg base "call_end" ["calls", "position"] 1 (spCallEnd K):=⟨f_call_end,fd_call_end,ok_call_end F_call_end T TN,m_call_end,F_call_end.kp,bi_call_end⟩
  have D_rewrite_record:Df P w K mg base "rewrite_record" ["record", "call"] 5 (spOnRec C CR isRewrite):=⟨f_rewrite_record,fd_rewrite_record,ok_rewrite_record F_rewrite_record T D_take_step D_run_steps,m_rewrite_record,F_rewrite_record.kp,bi_rewrite_record⟩
  have D_look_at_record:Df P w K mg base "look_at_record" ["record", "call"] 5 (spOnRec C CR isLook):=⟨f_look_at_record,fd_look_at_record,ok_look_at_record F_look_at_record T D_tell_pairs D_read_agent D_read_name D_count_agents,m_look_at_record,F_look_at_record.kp,bi_look_at_record⟩
  have D_build_record:Df P w K mg base "build_record" ["record", "call"] 6 (spOnRec C CR isBuild):=⟨f_build_record,fd_build_record,ok_build_record F_build_record T D_add_symbol D_add_rule D_add_agent D_join_points D_part_point,m_build_record,F_build_record.kp,bi_build_record⟩
  have D_make_record:Df P w K mg base "make_record" ["records", "o"] 3 (spMakeRecord C CR):=⟨f_make_record,fd_make_record,ok_make_record F_make_record T D_Record,m_make_record,F_make_record.kp,bi_make_record⟩
  have D_compare_records:Df P w K mg base "compare_records" ["records"] 7 (spCompare C CR):=⟨f_compare_records,fd_compare_records,ok_compare_records F_compare_records T D_tell_same,m_compare_records,F_compare_records.kp,bi_compare_records⟩
  have D_answer_call:Df P w K mg base "answer_call" ["records", "call"] 8 (spAnswerCall C CR):=⟨f_answer_call,fd_answer_call,ok_answer_call F_answer_call T D_make_record D_compare_records D_rewrite_record D_look_at_record D_build_record,m_answer_call,F_answer_call.kp,bi_answer_call⟩
  exact ok_answers F_answers T D_call_end D_answer_call
theorem req {l:List Int} (h0:∀ x∈l,0≤x) (ha:PyWqaqan.answers_asked l=true):∃ L xs,natsI L=l∧Lines L xs∧xs.length≤200∧PyWqaqan.answers l=PyFlat.told (playedN Nets.start xs):=by
  have eL:natsI (l.map Int.toNat)=l:=by
    unfold natsI
    rw [List.map_map]
    conv=>rhs;rw [← List.map_id l]
    refine List.map_congr_left fun x hx=>?_
    have:=h0 x hx
    show ((x.toNat:Nat):Int)=x
    omega
  have hc:PyWqaqan.calls l=match PyFlat.calls PyWqaqan.shape l.length l with
    | none=>none
    | some cs=>some (cs.map PyWqaqan.whole):=rfl
  have hA:PyWqaqan.answers_asked l=match PyWqaqan.calls l with
    | none=>false
    | some cs=>PyFlat.atMost 200 cs && NetNeutral.asked cs:=rfl
  have hB:PyWqaqan.answers l=match PyWqaqan.calls l with
    | none=>[]
    | some cs=>PyFlat.told (PyFlat.played NetNeutral.step NetNeutral.start cs):=rfl
  cases e:PyFlat.calls PyWqaqan.shape l.length l with
  | none =>
    rw [e] at hc
    rw [hA,hc] at ha
    cases ha
  | some cs =>
    rw [e] at hc
    have hc:PyWqaqan.calls l=some (cs.map PyWqaqan.whole):=hc
    rw [hA,hc] at ha
    have ha:(PyFlat.atMost 200 (cs.map PyWqaqan.whole) && NetNeutral.asked (cs.map PyWqaqan.whole))=true:=ha
    rw [Bool.and_eq_true] at ha
    have h200:(cs.map PyWqaqan.whole).length≤200:=of_decide_eq_true ha.1
    rw [List.length_map] at h200
    have e2:PyFlat.calls PyWqaqan.shape l.length (natsI (l.map Int.toNat))=some cs:=by rw [eL];exact e
    obtain ⟨xs,h1,h2,h3⟩:=parse _ _ _ e2
    refine ⟨l.map Int.toNat,xs,eL,h1,by omega,?_⟩
    rw [hB,hc]
    show PyFlat.told (PyFlat.played NetNeutral.step NetNeutral.start (cs.map PyWqaqan.whole))=_
    rw [h3]
    rfl
end Pn
end
set_option Elab.async false
namespace PySem.W.Fast
theorem tw12682625423508966050:True:=trivial
theorem tw17713930260979966845:True:=trivial
theorem tw12749052242937548950:True:=trivial
theorem tw9138563504669214454:True:=trivial
theorem tw16364707272028930696:True:=trivial
theorem tw13770841451942175713:True:=trivial
theorem tw3410750538172312021:True:=trivial
theorem tw1736596370782804811:True:=trivial
theorem tw5154311267353889861:True:=trivial
theorem tw2862664656125440669:True:=trivial
theorem tw10850143422953307641:True:=trivial
theorem tw14074213332774567901:True:=trivial
theorem tw9022241714280104655:True:=trivial
theorem tw11018514978225061671:True:=trivial
theorem tw16684813879826707419:True:=trivial
theorem tw5082603053767244257:True:=trivial
theorem tw14432052771899229075:True:=trivial
theorem tw17651590841590180660:True:=trivial
theorem tw18411040368112318390:True:=trivial
theorem tw17015030840234594697:True:=trivial
theorem tw105353726091719334:True:=trivial
theorem tw7863909148374250957:True:=trivial
theorem tw13454126534073192256:True:=trivial
theorem tw6167686312245455881:True:=trivial
theorem tw467938919717319209:True:=trivial
theorem tw3611932216756638128:True:=trivial
theorem tw8430125565017148668:True:=trivial
theorem tw16084011803201798144:True:=trivial
theorem tw9774011772424162719:True:=trivial
theorem tw9456330221826734751:True:=trivial
theorem tw5078507579087620282:True:=trivial
theorem tw753938435882177029:True:=trivial
theorem tw1416241595262536534:True:=trivial
theorem tw4532946509678420013:True:=trivial
theorem tw4194030077065803986:True:=trivial
theorem tw1427006251828156753:True:=trivial
theorem tw6617130819631518557:True:=trivial
theorem tw12862578592839535170:True:=trivial
theorem tw16264480327875918915:True:=trivial
theorem tw1660649621549668486:True:=trivial
theorem tw14877898666359266670:True:=trivial
theorem tw17623919997126484339:True:=trivial
theorem tw15348908362550501175:True:=trivial
theorem tw1799295683953502039:True:=trivial
theorem tw184803763653625266:True:=trivial
theorem tw2875983312874323070:True:=trivial
theorem tw16595278035487245356:True:=trivial
theorem tw12987493612066743364:True:=trivial
theorem tw5086808783316992447:True:=trivial
theorem tw16903312919394309830:True:=trivial
theorem tw15951975492244727096:True:=trivial
theorem tw16406895649381835818:True:=trivial
theorem tw1606238475644084616:True:=trivial
theorem tw4443133502647136810:True:=trivial
theorem tw17602161004416298828:True:=trivial
theorem tw5107526877058135733:True:=trivial
theorem tw2445321417301145561:True:=trivial
theorem tw6112454234421896731:True:=trivial
theorem tw2364342152086848088:True:=trivial
theorem tw13542692375421608543:True:=trivial
theorem tw5841592217840453700:True:=trivial
theorem tw3206807868872039353:True:=trivial
theorem tw16702397266944792846:True:=trivial
theorem tw9499703282388558709:True:=trivial
theorem tw17888620632503283604:True:=trivial
theorem tw17129559851957719574:True:=trivial
theorem tw10556860312482644048:True:=trivial
theorem tw6120143151691783645:True:=trivial
theorem tw11408554643269850831:True:=trivial
theorem tw14904020349426777863:True:=trivial
theorem tw564639713959553611:True:=trivial
theorem tw13430079513057877672:True:=trivial
theorem tw701719664053841339:True:=trivial
theorem tw9113102953735971671:True:=trivial
theorem tw10550854234026073094:True:=trivial
theorem tw5933797094472281030:True:=trivial
theorem tw10376639002409933913:True:=trivial
theorem tw15994945347428687631:True:=trivial
theorem tw11282477873785766787:True:=trivial
theorem tw9077258484101926248:True:=trivial
theorem tw12136398514359112746:True:=trivial
theorem tw10093505908040187961:True:=trivial
theorem tw2569696663160365864:True:=trivial
theorem tw11054116518025339959:True:=trivial
theorem tw8933112732562448303:True:=trivial
theorem tw15914777054528552098:True:=trivial
theorem tw6211547798746706216:True:=trivial
theorem tw12345254439522166700:True:=trivial
theorem tw12494506426226863004:True:=trivial
theorem tw4949558271721332821:True:=trivial
theorem tw17255758968772332614:True:=trivial
theorem tw1061088858052550530:True:=trivial
theorem tw8968853170924382582:True:=trivial
theorem tw2223977770156636566:True:=trivial
theorem tw7943905916250242280:True:=trivial
theorem tw4840145800685378146:True:=trivial
theorem tw3442880578039807187:True:=trivial
theorem tw17111488294275615450:True:=trivial
theorem tw13472147070788942664:True:=trivial
theorem tw1773992478994961262:True:=trivial
theorem tw13681802773770757406:True:=trivial
theorem tw3687664743996912680:True:=trivial
theorem tw3091285974066031811:True:=trivial
theorem tw4049432116727210733:True:=trivial
theorem tw5723735357023101672:True:=trivial
theorem tw11476436616790338633:True:=trivial
theorem tw7087184593167828774:True:=trivial
theorem tw9336474240298532978:True:=trivial
theorem tw2469668118864911677:True:=trivial
theorem tw7417577538120753219:True:=trivial
theorem tw10791393226815810571:True:=trivial
theorem tw12270142296125079019:True:=trivial
theorem tw981042105596665700:True:=trivial
theorem tw5590757698999898456:True:=trivial
theorem tw16658052817053089545:True:=trivial
theorem tw8799411036838275388:True:=trivial
theorem tw1452814709077642649:True:=trivial
theorem tw1043465005805460765:True:=trivial
theorem tw8731693800667404988:True:=trivial
theorem tw11882272103012598933:True:=trivial
theorem tw7447611784565388207:True:=trivial
theorem tw8215377805269472421:True:=trivial
theorem tw4600912400440438297:True:=trivial
theorem tw6591670169954820025:True:=trivial
theorem tw12518264003547588792:True:=trivial
theorem tw14267616355419593617:True:=trivial
theorem tw2203758420735645924:True:=trivial
theorem tw9892609395752365799:True:=trivial
theorem tw4309333118889382858:True:=trivial
theorem tw4618308313070127886:True:=trivial
theorem tw9795591161143604501:True:=trivial
theorem tw13946573708299780700:True:=trivial
theorem tw9919672598322422903:True:=trivial
theorem tw10313880179181138199:True:=trivial
theorem tw18052289735236388039:True:=trivial
theorem tw7684864863014909874:True:=trivial
theorem tw17668544575405965602:True:=trivial
theorem tw18231390672794191958:True:=trivial
theorem tw6044446840100595214:True:=trivial
theorem tw11913691921043089078:True:=trivial
theorem tw8773382727997647943:True:=trivial
theorem tw17921834618850435702:True:=trivial
theorem tw896305078171322527:True:=trivial
theorem tw17322333482386537963:True:=trivial
theorem tw844328159999142884:True:=trivial
theorem tw9991892895135286261:True:=trivial
theorem tw15121804098470036094:True:=trivial
theorem tw13525629769490643112:True:=trivial
theorem tw4817694327306930042:True:=trivial
theorem tw3845619332650148574:True:=trivial
theorem tw454145718425333443:True:=trivial
theorem tw2432916771307806153:True:=trivial
theorem tw13538853683935065912:True:=trivial
theorem tw17271230347235028769:True:=trivial
theorem tw1494550400898758825:True:=trivial
theorem tw4298887179031337967:True:=trivial
theorem tw9048025076390586019:True:=trivial
theorem tw9938667980936293943:True:=trivial
theorem tw9559965183056018563:True:=trivial
theorem tw17138434533199517627:True:=trivial
theorem tw12419245034804586130:True:=trivial
theorem tw444526560250534816:True:=trivial
theorem tw3350843652146124584:True:=trivial
theorem tw17856391966471584108:True:=trivial
theorem tw2504682571248584734:True:=trivial
theorem tw16084705097519562413:True:=trivial
theorem tw16420392255159968900:True:=trivial
theorem tw14097245477905163292:True:=trivial
theorem tw745210511760556924:True:=trivial
theorem tw8646139579809807663:True:=trivial
theorem tw10860850470629308401:True:=trivial
theorem tw16011441260039744964:True:=trivial
theorem tw2175448510153211271:True:=trivial
theorem tw7385389472766192824:True:=trivial
theorem tw168048132045132025:True:=trivial
theorem tw4138543366912621662:True:=trivial
theorem tw11402891212820983985:True:=trivial
theorem tw89932295615055774:True:=trivial
theorem tw9629480712263468702:True:=trivial
theorem tw17168184099969010383:True:=trivial
theorem tw17639248704503408553:True:=trivial
theorem tw4250608935779318760:True:=trivial
theorem tw4038360181513597690:True:=trivial
theorem tw12809967409510302515:True:=trivial
theorem tw7362075226945142238:True:=trivial
theorem tw10144182475910234276:True:=trivial
theorem tw14348763898029716174:True:=trivial
theorem tw8949330712884974962:True:=trivial
theorem tw14300316350945425422:True:=trivial
theorem tw1054572336364643794:True:=trivial
theorem tw17822835521169391336:True:=trivial
theorem tw4772358594307549924:True:=trivial
theorem tw2052990478726696715:True:=trivial
theorem tw2957047028747442690:True:=trivial
theorem tw3490207538243316564:True:=trivial
theorem tw517107511532260233:True:=trivial
theorem tw3580023830407777177:True:=trivial
theorem tw14541634038871744830:True:=trivial
theorem tw8623760497074149216:True:=trivial
theorem tw9609651224685566917:True:=trivial
theorem tw2037513282703931309:True:=trivial
theorem tw18090786237440893184:True:=trivial
theorem tw11091671209582340869:True:=trivial
theorem tw14902559496534094031:True:=trivial
theorem tw14728132541197602819:True:=trivial
theorem tw1098982181179153954:True:=trivial
theorem tw6987084397061708022:True:=trivial
theorem tw3035426025817787647:True:=trivial
theorem tw5126145780701163746:True:=trivial
theorem tw7626641726127056963:True:=trivial
theorem tw1334264471761016858:True:=trivial
theorem tw8843371445205813727:True:=trivial
theorem tw16834417221271706615:True:=trivial
theorem tw4772076248701216267:True:=trivial
theorem tw3031900079504782862:True:=trivial
theorem tw6150099440721634308:True:=trivial
theorem tw10845182044882776566:True:=trivial
theorem tw9918746700204204217:True:=trivial
theorem tw10947733319169634569:True:=trivial
theorem tw9892998317601718967:True:=trivial
theorem tw14751625352297324692:True:=trivial
theorem tw5045774862760829117:True:=trivial
theorem tw11751177933652300041:True:=trivial
theorem tw2449387254460348295:True:=trivial
theorem tw3673007615629819902:True:=trivial
theorem tw7985384862536551662:True:=trivial
theorem tw4156008882461714881:True:=trivial
theorem tw13741735265201143985:True:=trivial
theorem tw2986709471086238732:True:=trivial
theorem tw2927333074227971035:True:=trivial
theorem tw3818169879274622786:True:=trivial
theorem tw10576373147819995303:True:=trivial
theorem tw14785277900469841920:True:=trivial
theorem tw4579601269376948860:True:=trivial
theorem tw15250423027889373913:True:=trivial
theorem tw441600138323298311:True:=trivial
theorem tw5918776960725945059:True:=trivial
theorem tw3003725154087734699:True:=trivial
theorem tw10896596118536901297:True:=trivial
theorem tw15612469336673980977:True:=trivial
theorem tw1863931871196544134:True:=trivial
theorem tw6403071933408233531:True:=trivial
theorem tw14482672265957547315:True:=trivial
theorem tw11766582622837654452:True:=trivial
theorem tw8314937268805215351:True:=trivial
theorem tw15999517874935810789:True:=trivial
theorem tw55871417919052572:True:=trivial
theorem tw12212031300281264062:True:=trivial
theorem tw5236624989313312713:True:=trivial
theorem tw6656152289183426879:True:=trivial
theorem tw12604916136283260052:True:=trivial
theorem tw13854904181599960107:True:=trivial
theorem tw14188301422961044040:True:=trivial
theorem tw8326166108377160387:True:=trivial
theorem tw15798290404494447919:True:=trivial
theorem tw1222620592510960648:True:=trivial
theorem tw4286759226740815193:True:=trivial
theorem tw7219347109010870653:True:=trivial
theorem tw6943499155449450157:True:=trivial
theorem tw9294314574268772638:True:=trivial
theorem tw6302359863987074049:True:=trivial
theorem tw2548280102508432740:True:=trivial
theorem tw15984488436246029364:True:=trivial
theorem tw11829717628348164272:True:=trivial
theorem tw11912478007274393124:True:=trivial
theorem tw8383064088274910131:True:=trivial
theorem tw803512959834130025:True:=trivial
theorem tw558496649224257122:True:=trivial
theorem tw4587570135750106583:True:=trivial
theorem tw255121079871634180:True:=trivial
theorem tw12712829107956055687:True:=trivial
theorem tw7186543180220832119:True:=trivial
theorem tw14896247780185644106:True:=trivial
theorem tw1603501100558367968:True:=trivial
theorem tw8378652774221277944:True:=trivial
theorem tw7729308496861994116:True:=trivial
theorem tw13466463502069715598:True:=trivial
theorem tw7583288331932384138:True:=trivial
theorem tw17893278860565129558:True:=trivial
theorem tw953947561917111975:True:=trivial
theorem tw16453663442059395735:True:=trivial
theorem tw5407497730891392781:True:=trivial
theorem tw2873405830939345621:True:=trivial
theorem tw12173604996790806183:True:=trivial
theorem tw6462031849022282040:True:=trivial
theorem tw8190080392613722513:True:=trivial
theorem tw770426657372714528:True:=trivial
theorem tw2309409337165807:True:=trivial
theorem tw2518980311913159352:True:=trivial
theorem tw11124288603914367247:True:=trivial
theorem tw11547083366418015454:True:=trivial
theorem tw2861540422300826257:True:=trivial
theorem tw7147727188959270979:True:=trivial
theorem tw16941920889007626406:True:=trivial
theorem tw1745085195406590065:True:=trivial
theorem tw13638959536026383177:True:=trivial
theorem tw5130002786654521237:True:=trivial
theorem tw2315475187910193594:True:=trivial
theorem tw4164983312898676482:True:=trivial
theorem tw3298960289479765588:True:=trivial
theorem tw7454447921171448760:True:=trivial
theorem tw3883404864048442547:True:=trivial
theorem tw14417641095901622957:True:=trivial
theorem tw2383518105269444902:True:=trivial
theorem tw10723077253597836416:True:=trivial
theorem tw12805446423517783777:True:=trivial
theorem tw17606256877500356251:True:=trivial
theorem tw5843541310000404778:True:=trivial
theorem tw16204358383576558791:True:=trivial
theorem tw9725136333975781460:True:=trivial
theorem tw3081678303412515339:True:=trivial
theorem tw4572354653268734615:True:=trivial
theorem tw4224568582557160309:True:=trivial
theorem tw523268951304444706:True:=trivial
theorem tw10527011783680452811:True:=trivial
theorem tw1663845850314288501:True:=trivial
theorem tw169630225292690530:True:=trivial
theorem tw10040122625925730469:True:=trivial
theorem tw13391021349842108960:True:=trivial
theorem tw1666712459795331160:True:=trivial
theorem tw10434445845776577067:True:=trivial
theorem tw9011431940774201408:True:=trivial
theorem tw13253345433054777036:True:=trivial
theorem tw2711253112226833178:True:=trivial
theorem tw17803576672825031033:True:=trivial
theorem tw13316094330672469590:True:=trivial
theorem tw18370901698443648538:True:=trivial
theorem tw10845611112338451726:True:=trivial
theorem tw18115475115658339870:True:=trivial
theorem tw12170146966292654409:True:=trivial
theorem tw1036332058095555011:True:=trivial
theorem tw6194852415929283145:True:=trivial
theorem tw12178319908060423340:True:=trivial
theorem tw5073460436466751421:True:=trivial
theorem tw3373935901977064558:True:=trivial
theorem tw15708429788174534027:True:=trivial
theorem tw11924997053351261115:True:=trivial
theorem tw17000425404589398819:True:=trivial
theorem tw347098923700277711:True:=trivial
theorem tw7271946198917300778:True:=trivial
theorem tw5364281399885770919:True:=trivial
theorem tw9527600048709289751:True:=trivial
theorem tw18167387136472764818:True:=trivial
theorem tw7520244836805526187:True:=trivial
theorem tw5298157727490880575:True:=trivial
theorem tw14773231011351291239:True:=trivial
theorem tw16886689578085219337:True:=trivial
theorem tw12718821408361749615:True:=trivial
theorem tw15502061437010800574:True:=trivial
theorem tw13811334557720890968:True:=trivial
theorem tw15757675918805086255:True:=trivial
theorem tw7674361897992141364:True:=trivial
theorem tw11613800315798828166:True:=trivial
theorem tw2527845363088426164:True:=trivial
theorem tw1266624683429476700:True:=trivial
theorem tw12823795290278861967:True:=trivial
theorem tw7767055849385358828:True:=trivial
theorem tw8410022584363958941:True:=trivial
theorem tw13868839697672606602:True:=trivial
theorem tw839563747179760936:True:=trivial
theorem tw2079697133609030157:True:=trivial
theorem tw13874691667490916530:True:=trivial
theorem tw15062529697097361592:True:=trivial
theorem tw17930098417263406608:True:=trivial
theorem tw16991367240038194642:True:=trivial
theorem tw12217970521425856154:True:=trivial
theorem tw17738217654291031039:True:=trivial
theorem tw6962284283071755739:True:=trivial
theorem tw17570440158630036543:True:=trivial
theorem tw1219903610447432093:True:=trivial
theorem tw12198407097899886639:True:=trivial
theorem tw6751947665246891034:True:=trivial
theorem tw18148792679864081570:True:=trivial
theorem tw5908178806385471324:True:=trivial
theorem tw7790451239002094575:True:=trivial
theorem tw471856035067320166:True:=trivial
theorem tw5889156916218263876:True:=trivial
theorem tw6878758620489032977:True:=trivial
theorem tw6324576198051694909:True:=trivial
theorem tw11843726978934761805:True:=trivial
theorem tw6882727939899621425:True:=trivial
theorem tw16537664246285202943:True:=trivial
theorem tw14336854006315034307:True:=trivial
theorem tw16992889811848417446:True:=trivial
theorem tw3701630312466945196:True:=trivial
theorem tw5832096687947082573:True:=trivial
theorem tw17130286844379547414:True:=trivial
theorem tw6633581387911570052:True:=trivial
theorem tw14730563480501257174:True:=trivial
theorem tw11015901106338142455:True:=trivial
theorem tw7560050173960194282:True:=trivial
theorem tw4425706251466046089:True:=trivial
theorem tw10519708937657690998:True:=trivial
theorem tw7566321294163562442:True:=trivial
theorem tw11929829968770488178:True:=trivial
theorem tw14011110928954773801:True:=trivial
theorem tw11955907593137233119:True:=trivial
theorem tw10713485576997289562:True:=trivial
theorem tw13857206202672392689:True:=trivial
theorem tw4592425468671276192:True:=trivial
theorem tw3123979521772252027:True:=trivial
theorem tw451383898977580064:True:=trivial
theorem tw5924687043776071369:True:=trivial
theorem tw10554897699982496394:True:=trivial
theorem tw2862408643039647822:True:=trivial
theorem tw16860584745700473796:True:=trivial
theorem tw10874004801547781070:True:=trivial
theorem tw4312932597372702771:True:=trivial
theorem tw4397452099856973539:True:=trivial
theorem tw4956594323184155673:True:=trivial
theorem tw10775257515303780176:True:=trivial
theorem tw578729485319885827:True:=trivial
theorem tw7903856725586608550:True:=trivial
theorem tw10561696383157216727:True:=trivial
theorem tw9082672948135614266:True:=trivial
theorem tw10102406647227378753:True:=trivial
theorem tw501753420523331970:True:=trivial
theorem tw4319545916157154124:True:=trivial
theorem tw17964896803413836140:True:=trivial
theorem tw3299688190242249474:True:=trivial
theorem tw16242303105722160986:True:=trivial
theorem tw5918049127985498771:True:=trivial
theorem tw18397429601117371889:True:=trivial
theorem tw16191846342972867151:True:=trivial
theorem tw6130280174254533506:True:=trivial
theorem tw15845743817162044022:True:=trivial
theorem tw13548767929783420410:True:=trivial
theorem tw14203614440975882124:True:=trivial
theorem tw7182169650799389071:True:=trivial
end PySem.W.Fast
open PySem PySem.W PyProof.Rows
set_option maxRecDepth 100000 in
set_option maxHeartbeats 0 in
theorem PySem.Challenge.cw_pairnets_s01_answers_holds : PySem.Challenge.rw_pairnets_s01_answers.Holds := by
  w_on;k_headS;(case hw=>exact ⟨[.list [.int 13]],by decide +kernel,by decide +kernel⟩)
  k_fillS
  refine L2.walk_specK (r:=PySem.Challenge.rw_pairnets_s01_answers) (k:=9) (CX:=L2.CX0) (ps:=["calls"]) (sp:=Pn.spAns) (by decide +kernel) rfl rfl ⟨rfl,by decide,by decide⟩ (fun w h Y=>PySem.W.kIn_of Y) ?F ?S (fun _ _ _ _ z=>z)
  case F =>
    intro w mg fa h Y KX G hmg
    refine' Pn.all_mk KX G hmg ?c_Record ?c_Rule ?c_Matching ?k_PORTS_APART ?k_FIRST_NAME ?k_NAME_COUNT ?k_NOTHING ?k_TOO_HIGH ?k_FULL ?k_NO_ROOM ?k_NOT_THERE ?k_TAKEN ?k_NOT_JOINED ?k_NO_RULE_ROW ?k_UNEVEN ?k_NOT_WHOLE ?k_NO_RECORD ?k_SYMBOL_LIMIT ?k_MORE_PORTS_LIMIT ?k_NEW_AGENT_LIMIT ?k_FIRST_OLD ?k_SECOND_OLD ?k_OLD_APART ?k_AGENT_LIMIT ?k_STEP_LIMIT ?k_NO_PAIR ?k_OPEN_CALL ?k_SYMBOL_CALL ?k_RULE_CALL ?k_AGENT_CALL ?k_JOIN_CALL ?k_PAIRS_CALL ?k_STEP_CALL ?k_RUN_CALL ?k_READ_CALL ?k_NAME_CALL ?k_COUNT_CALL ?k_SAME_CALL ?k_HIGHEST_RECORD ?b_enumerate ?b_len ?b_max ?b_min ?b_range ?b_sorted ?t_nc ?d_is_symbol ?d_is_point ?d_exchanged ?d_moved ?d_is_placed ?d_rule_key ?d_add_symbol ?d_lowest_free ?d_add_agent ?d_join_points ?d_part_point ?d_is_pair ?d_tell_pairs ?d_new_symbols ?d_wire_places ?d_needed_places ?d_is_rule_row ?d_find_mates ?d_keeps_old_wires ?d_can_follow ?d_is_even ?d_add_rule ?d_joined_to ?d_read_agent ?d_read_name ?d_count_agents ?d_is_whole ?d_facing_agent ?d_rule_at ?d_has_room ?d_lowest_pair ?d_far_place ?d_old_places ?d_inner_joins ?d_outer_ends ?d_take_out_pair ?d_bring_new_agents ?d_rewrite_pair ?d_take_step ?d_run_steps ?d_is_port ?d_names_fit ?d_match_agents ?d_match_points ?d_match_waiting ?d_match_part ?d_is_same_net ?d_tell_same ?d_call_end ?d_rewrite_record ?d_look_at_record ?d_build_record ?d_make_record ?d_compare_records ?d_answer_call ?d_answers
    (case c_Record=>(refine' Pn.ClsIn.mk_ ?a ?i ?fn ?l ?c ?k ?pg ?hd ?po ?sa ?mk ?kc ?n;(case a=>k_is);(case i=>k_is);(case fn=>k_is);(case l=>k_is);(case c=>k_is);(case k=>k_is);(case pg=>k_is);(case hd=>k_is);(case po=>k_is);(case sa=>k_is);(case mk=>k_is);(case kc=>k_is);(case n=>(refine' ⟨?_,?_,?_,?_⟩ <;> (unfold L2.NoAttr;k_is)))))
    (case c_Rule=>(refine' Pn.ClsIn.mk_ ?a ?i ?fn ?l ?c ?k ?pg ?hd ?po ?sa ?mk ?kc ?n;(case a=>k_is);(case i=>k_is);(case fn=>k_is);(case l=>k_is);(case c=>k_is);(case k=>k_is);(case pg=>k_is);(case hd=>k_is);(case po=>k_is);(case sa=>k_is);(case mk=>k_is);(case kc=>k_is);(case n=>(refine' ⟨?_,?_,?_⟩ <;> (unfold L2.NoAttr;k_is)))))
    (case c_Matching=>(refine' Pn.ClsIn.mk_ ?a ?i ?fn ?l ?c ?k ?pg ?hd ?po ?sa ?mk ?kc ?n;(case a=>k_is);(case i=>k_is);(case fn=>k_is);(case l=>k_is);(case c=>k_is);(case k=>k_is);(case pg=>k_is);(case hd=>k_is);(case po=>k_is);(case sa=>k_is);(case mk=>k_is);(case kc=>k_is);(case n=>(refine' ⟨?_,?_,?_,?_,?_⟩ <;> (unfold L2.NoAttr;k_is)))))
    (case k_PORTS_APART=>(refine' Pn.ConstIn.mk_ ?a;(case a=>k_is)))
    (case k_FIRST_NAME=>(refine' Pn.ConstIn.mk_ ?a;(case a=>k_is)))
    (case k_NAME_COUNT=>(refine' Pn.ConstIn.mk_ ?a;(case a=>k_is)))
    (case k_NOTHING=>(refine' Pn.ConstIn.mk_ ?a;(case a=>k_is)))
    (case k_TOO_HIGH=>(refine' Pn.ConstIn.mk_ ?a;(case a=>k_is)))
    (case k_FULL=>(refine' Pn.ConstIn.mk_ ?a;(case a=>k_is)))
    (case k_NO_ROOM=>(refine' Pn.ConstIn.mk_ ?a;(case a=>k_is)))
    (case k_NOT_THERE=>(refine' Pn.ConstIn.mk_ ?a;(case a=>k_is)))
    (case k_TAKEN=>(refine' Pn.ConstIn.mk_ ?a;(case a=>k_is)))
    (case k_NOT_JOINED=>(refine' Pn.ConstIn.mk_ ?a;(case a=>k_is)))
    (case k_NO_RULE_ROW=>(refine' Pn.ConstIn.mk_ ?a;(case a=>k_is)))
    (case k_UNEVEN=>(refine' Pn.ConstIn.mk_ ?a;(case a=>k_is)))
    (case k_NOT_WHOLE=>(refine' Pn.ConstIn.mk_ ?a;(case a=>k_is)))
    (case k_NO_RECORD=>(refine' Pn.ConstIn.mk_ ?a;(case a=>k_is)))
    (case k_SYMBOL_LIMIT=>(refine' Pn.ConstIn.mk_ ?a;(case a=>k_is)))
    (case k_MORE_PORTS_LIMIT=>(refine' Pn.ConstIn.mk_ ?a;(case a=>k_is)))
    (case k_NEW_AGENT_LIMIT=>(refine' Pn.ConstIn.mk_ ?a;(case a=>k_is)))
    (case k_FIRST_OLD=>(refine' Pn.ConstIn.mk_ ?a;(case a=>k_is)))
    (case k_SECOND_OLD=>(refine' Pn.ConstIn.mk_ ?a;(case a=>k_is)))
    (case k_OLD_APART=>(refine' Pn.ConstIn.mk_ ?a;(case a=>k_is)))
    (case k_AGENT_LIMIT=>(refine' Pn.ConstIn.mk_ ?a;(case a=>k_is)))
    (case k_STEP_LIMIT=>(refine' Pn.ConstIn.mk_ ?a;(case a=>k_is)))
    (case k_NO_PAIR=>(refine' Pn.ConstIn.mk_ ?a;(case a=>k_is)))
    (case k_OPEN_CALL=>(refine' Pn.ConstIn.mk_ ?a;(case a=>k_is)))
    (case k_SYMBOL_CALL=>(refine' Pn.ConstIn.mk_ ?a;(case a=>k_is)))
    (case k_RULE_CALL=>(refine' Pn.ConstIn.mk_ ?a;(case a=>k_is)))
    (case k_AGENT_CALL=>(refine' Pn.ConstIn.mk_ ?a;(case a=>k_is)))
    (case k_JOIN_CALL=>(refine' Pn.ConstIn.mk_ ?a;(case a=>k_is)))
    (case k_PAIRS_CALL=>(refine' Pn.ConstIn.mk_ ?a;(case a=>k_is)))
    (case k_STEP_CALL=>(refine' Pn.ConstIn.mk_ ?a;(case a=>k_is)))
    (case k_RUN_CALL=>(refine' Pn.ConstIn.mk_ ?a;(case a=>k_is)))
    (case k_READ_CALL=>(refine' Pn.ConstIn.mk_ ?a;(case a=>k_is)))
    (case k_NAME_CALL=>(refine' Pn.ConstIn.mk_ ?a;(case a=>k_is)))
    (case k_COUNT_CALL=>(refine' Pn.ConstIn.mk_ ?a;(case a=>k_is)))
    (case k_SAME_CALL=>(refine' Pn.ConstIn.mk_ ?a;(case a=>k_is)))
    (case k_HIGHEST_RECORD=>(refine' Pn.ConstIn.mk_ ?a;(case a=>k_is)))
    (case b_enumerate=>k_is)
    (case b_len=>k_is)
    (case b_max=>k_is)
    (case b_min=>k_is)
    (case b_range=>k_is)
    (case b_sorted=>k_is)
    (case t_nc=>(refine' Pn.DictIn.mk_ ?a ?l ?r;(case a=>k_is);(case l=>k_is);(case r=>exact Pn.nc_is)))
    (case d_is_symbol=>(refine' Pn.DefIn.mk_ ?a ?l ?c ?k;(case a=>k_is);(case l=>k_is);(case c=>k_is);(case k=>k_is)))
    (case d_is_point=>(refine' Pn.DefIn.mk_ ?a ?l ?c ?k;(case a=>k_is);(case l=>k_is);(case c=>k_is);(case k=>k_is)))
    (case d_exchanged=>(refine' Pn.DefIn.mk_ ?a ?l ?c ?k;(case a=>k_is);(case l=>k_is);(case c=>k_is);(case k=>k_is)))
    (case d_moved=>(refine' Pn.DefIn.mk_ ?a ?l ?c ?k;(case a=>k_is);(case l=>k_is);(case c=>k_is);(case k=>k_is)))
    (case d_is_placed=>(refine' Pn.DefIn.mk_ ?a ?l ?c ?k;(case a=>k_is);(case l=>k_is);(case c=>k_is);(case k=>k_is)))
    (case d_rule_key=>(refine' Pn.DefIn.mk_ ?a ?l ?c ?k;(case a=>k_is);(case l=>k_is);(case c=>k_is);(case k=>k_is)))
    (case d_add_symbol=>(refine' Pn.DefIn.mk_ ?a ?l ?c ?k;(case a=>k_is);(case l=>k_is);(case c=>k_is);(case k=>k_is)))
    (case d_lowest_free=>(refine' Pn.DefIn.mk_ ?a ?l ?c ?k;(case a=>k_is);(case l=>k_is);(case c=>k_is);(case k=>k_is)))
    (case d_add_agent=>(refine' Pn.DefIn.mk_ ?a ?l ?c ?k;(case a=>k_is);(case l=>k_is);(case c=>k_is);(case k=>k_is)))
    (case d_join_points=>(refine' Pn.DefIn.mk_ ?a ?l ?c ?k;(case a=>k_is);(case l=>k_is);(case c=>k_is);(case k=>k_is)))
    (case d_part_point=>(refine' Pn.DefIn.mk_ ?a ?l ?c ?k;(case a=>k_is);(case l=>k_is);(case c=>k_is);(case k=>k_is)))
    (case d_is_pair=>(refine' Pn.DefIn.mk_ ?a ?l ?c ?k;(case a=>k_is);(case l=>k_is);(case c=>k_is);(case k=>k_is)))
    (case d_tell_pairs=>(refine' Pn.DefIn.mk_ ?a ?l ?c ?k;(case a=>k_is);(case l=>k_is);(case c=>k_is);(case k=>k_is)))
    (case d_new_symbols=>(refine' Pn.DefIn.mk_ ?a ?l ?c ?k;(case a=>k_is);(case l=>k_is);(case c=>k_is);(case k=>k_is)))
    (case d_wire_places=>(refine' Pn.DefIn.mk_ ?a ?l ?c ?k;(case a=>k_is);(case l=>k_is);(case c=>k_is);(case k=>k_is)))
    (case d_needed_places=>(refine' Pn.DefIn.mk_ ?a ?l ?c ?k;(case a=>k_is);(case l=>k_is);(case c=>k_is);(case k=>k_is)))
    (case d_is_rule_row=>(refine' Pn.DefIn.mk_ ?a ?l ?c ?k;(case a=>k_is);(case l=>k_is);(case c=>k_is);(case k=>k_is)))
    (case d_find_mates=>(refine' Pn.DefIn.mk_ ?a ?l ?c ?k;(case a=>k_is);(case l=>k_is);(case c=>k_is);(case k=>k_is)))
    (case d_keeps_old_wires=>(refine' Pn.DefIn.mk_ ?a ?l ?c ?k;(case a=>k_is);(case l=>k_is);(case c=>k_is);(case k=>k_is)))
    (case d_can_follow=>(refine' Pn.DefIn.mk_ ?a ?l ?c ?k;(case a=>k_is);(case l=>k_is);(case c=>k_is);(case k=>k_is)))
    (case d_is_even=>(refine' Pn.DefIn.mk_ ?a ?l ?c ?k;(case a=>k_is);(case l=>k_is);(case c=>k_is);(case k=>k_is)))
    (case d_add_rule=>(refine' Pn.DefIn.mk_ ?a ?l ?c ?k;(case a=>k_is);(case l=>k_is);(case c=>k_is);(case k=>k_is)))
    (case d_joined_to=>(refine' Pn.DefIn.mk_ ?a ?l ?c ?k;(case a=>k_is);(case l=>k_is);(case c=>k_is);(case k=>k_is)))
    (case d_read_agent=>(refine' Pn.DefIn.mk_ ?a ?l ?c ?k;(case a=>k_is);(case l=>k_is);(case c=>k_is);(case k=>k_is)))
    (case d_read_name=>(refine' Pn.DefIn.mk_ ?a ?l ?c ?k;(case a=>k_is);(case l=>k_is);(case c=>k_is);(case k=>k_is)))
    (case d_count_agents=>(refine' Pn.DefIn.mk_ ?a ?l ?c ?k;(case a=>k_is);(case l=>k_is);(case c=>k_is);(case k=>k_is)))
    (case d_is_whole=>(refine' Pn.DefIn.mk_ ?a ?l ?c ?k;(case a=>k_is);(case l=>k_is);(case c=>k_is);(case k=>k_is)))
    (case d_facing_agent=>(refine' Pn.DefIn.mk_ ?a ?l ?c ?k;(case a=>k_is);(case l=>k_is);(case c=>k_is);(case k=>k_is)))
    (case d_rule_at=>(refine' Pn.DefIn.mk_ ?a ?l ?c ?k;(case a=>k_is);(case l=>k_is);(case c=>k_is);(case k=>k_is)))
    (case d_has_room=>(refine' Pn.DefIn.mk_ ?a ?l ?c ?k;(case a=>k_is);(case l=>k_is);(case c=>k_is);(case k=>k_is)))
    (case d_lowest_pair=>(refine' Pn.DefIn.mk_ ?a ?l ?c ?k;(case a=>k_is);(case l=>k_is);(case c=>k_is);(case k=>k_is)))
    (case d_far_place=>(refine' Pn.DefIn.mk_ ?a ?l ?c ?k;(case a=>k_is);(case l=>k_is);(case c=>k_is);(case k=>k_is)))
    (case d_old_places=>(refine' Pn.DefIn.mk_ ?a ?l ?c ?k;(case a=>k_is);(case l=>k_is);(case c=>k_is);(case k=>k_is)))
    (case d_inner_joins=>(refine' Pn.DefIn.mk_ ?a ?l ?c ?k;(case a=>k_is);(case l=>k_is);(case c=>k_is);(case k=>k_is)))
    (case d_outer_ends=>(refine' Pn.DefIn.mk_ ?a ?l ?c ?k;(case a=>k_is);(case l=>k_is);(case c=>k_is);(case k=>k_is)))
    (case d_take_out_pair=>(refine' Pn.DefIn.mk_ ?a ?l ?c ?k;(case a=>k_is);(case l=>k_is);(case c=>k_is);(case k=>k_is)))
    (case d_bring_new_agents=>(refine' Pn.DefIn.mk_ ?a ?l ?c ?k;(case a=>k_is);(case l=>k_is);(case c=>k_is);(case k=>k_is)))
    (case d_rewrite_pair=>(refine' Pn.DefIn.mk_ ?a ?l ?c ?k;(case a=>k_is);(case l=>k_is);(case c=>k_is);(case k=>k_is)))
    (case d_take_step=>(refine' Pn.DefIn.mk_ ?a ?l ?c ?k;(case a=>k_is);(case l=>k_is);(case c=>k_is);(case k=>k_is)))
    (case d_run_steps=>(refine' Pn.DefIn.mk_ ?a ?l ?c ?k;(case a=>k_is);(case l=>k_is);(case c=>k_is);(case k=>k_is)))
    (case d_is_port=>(refine' Pn.DefIn.mk_ ?a ?l ?c ?k;(case a=>k_is);(case l=>k_is);(case c=>k_is);(case k=>k_is)))
    (case d_names_fit=>(refine' Pn.DefIn.mk_ ?a ?l ?c ?k;(case a=>k_is);(case l=>k_is);(case c=>k_is);(case k=>k_is)))
    (case d_match_agents=>(refine' Pn.DefIn.mk_ ?a ?l ?c ?k;(case a=>k_is);(case l=>k_is);(case c=>k_is);(case k=>k_is)))
    (case d_match_points=>(refine' Pn.DefIn.mk_ ?a ?l ?c ?k;(case a=>k_is);(case l=>k_is);(case c=>k_is);(case k=>k_is)))
    (case d_match_waiting=>(refine' Pn.DefIn.mk_ ?a ?l ?c ?k;(case a=>k_is);(case l=>k_is);(case c=>k_is);(case k=>k_is)))
    (case d_match_part=>(refine' Pn.DefIn.mk_ ?a ?l ?c ?k;(case a=>k_is);(case l=>k_is);(case c=>k_is);(case k=>k_is)))
    (case d_is_same_net=>(refine' Pn.DefIn.mk_ ?a ?l ?c ?k;(case a=>k_is);(case l=>k_is);(case c=>k_is);(case k=>k_is)))
    (case d_tell_same=>(refine' Pn.DefIn.mk_ ?a ?l ?c ?k;(case a=>k_is);(case l=>k_is);(case c=>k_is);(case k=>k_is)))
    (case d_call_end=>(refine' Pn.DefIn.mk_ ?a ?l ?c ?k;(case a=>k_is);(case l=>k_is);(case c=>k_is);(case k=>k_is)))
    (case d_rewrite_record=>(refine' Pn.DefIn.mk_ ?a ?l ?c ?k;(case a=>k_is);(case l=>k_is);(case c=>k_is);(case k=>k_is)))
    (case d_look_at_record=>(refine' Pn.DefIn.mk_ ?a ?l ?c ?k;(case a=>k_is);(case l=>k_is);(case c=>k_is);(case k=>k_is)))
    (case d_build_record=>(refine' Pn.DefIn.mk_ ?a ?l ?c ?k;(case a=>k_is);(case l=>k_is);(case c=>k_is);(case k=>k_is)))
    (case d_make_record=>(refine' Pn.DefIn.mk_ ?a ?l ?c ?k;(case a=>k_is);(case l=>k_is);(case c=>k_is);(case k=>k_is)))
    (case d_compare_records=>(refine' Pn.DefIn.mk_ ?a ?l ?c ?k;(case a=>k_is);(case l=>k_is);(case c=>k_is);(case k=>k_is)))
    (case d_answer_call=>(refine' Pn.DefIn.mk_ ?a ?l ?c ?k;(case a=>k_is);(case l=>k_is);(case c=>k_is);(case k=>k_is)))
    (case d_answers=>(refine' Pn.DefIn.mk_ ?a ?l ?c ?k;(case a=>k_is);(case l=>k_is);(case c=>k_is);(case k=>k_is)))
  case S =>
    intro K H xs a hO hwi hask hx
    cases hx with
    | cons h1 h2 =>
      cases h2
      cases h1 with
      | lst hs ha =>
        have e:=L2.ints_dw a.1 _ ha
        subst e
        have q:((Codec.inLen 0 30000 a.1 && a.1.all (Codec.inInt 0 4294967295)) && true)=true:=hwi
        rw [Bool.and_eq_true,Bool.and_eq_true] at q
        obtain ⟨L,ys,e1,e2,e3,e4⟩:=Pn.req (l:=a.1) (fun x hx=>(Codec.inInt_iff.mp (List.all_eq_true.mp q.1.2 x hx)).1) hask
        have hl:L.length≤30000:=by
          have z:=(Codec.inNat_iff.mp q.1.1).2
          rw [← e1,Pn.natsI_len] at z
          exact z
        refine ⟨_,L,ys,rfl,by rw [← Pn.natsI_V,e1];exact hs,hl,e2,e3,fun H' p hp=>?_⟩
        have ed:L2.Dw K H' (.ref p) (Codec.enc (.list 0 1048576 (.int (-9223372036854775808) 18446744073709551615)) (PyWqaqan.answers a.1)):=by
          rw [e4]
          exact .lst (L2.SqL.of hp) (L2.dw_ints _)
        exact ed
