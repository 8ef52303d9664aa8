import PyProof.Rows.All
import Wide.All
import OpenK.AllK
import Wide.FinOn
import PyProof.EqAt
import PyProof.EqKinds
import PyProof.TupleCall
import KE.BitLaws
import Open.SpecLaws
import KE.OsHead
import KE.OsGo
import PyProof.StationsW
import PyProof.RulesAs
import PyProof.PassesOwn
import PyProof.WalkInts
import PyProof.ExcAttrAll.Exception
import KE.KTryMore
import PyProof.Rows.SortShellAny
import PyProof.ListRange
import PySem.Challenge.RW_exactqubits_s13_form
set_option Elab.async false
set_option linter.all false
set_option maxRecDepth 100000
set_option maxHeartbeats 4000000
namespace OmMath
end OmMath
section
namespace L2
open PySem PySem.Spec PyProof.Rows
abbrev Key:=Sum Int Str
def keyIs:Key->Value->Bool
 | .inl k,v=>Value.isInt k v
 | .inr x,v=>Value.isStrOf x v
def keyH (w:World):Key->Int
 | .inl k=>hashInt k
 | .inr x=>hashStr w x
theorem keyIs_shape:∀ {k:Key} {v:Value},keyIs k v=true->(∃ i t,k=Sum.inl i/\v=Value.int i t) \/ (∃ x t,k=Sum.inr x/\v=Value.str x t)
 | .inl i,v,h=>by
  obtain ⟨t,e⟩:=Value.isInt_shape (k:=i) (v:=v) h
  exact .inl ⟨i,t,rfl,e⟩
 | .inr x,v,h=>by
  obtain ⟨t,e⟩:=Value.isStrOf_shape (x:=x) (v:=v) h
  exact .inr ⟨x,t,rfl,e⟩
theorem keyIs_int (i:Int) (t:Tok):keyIs (.inl i) (.int i t)=true:=by simp [keyIs,Value.isInt]
theorem keyIs_str (x:Str) (t:Tok):keyIs (.inr x) (.str x t)=true:=by simp [keyIs,Value.isStrOf]
theorem key_ll (a b:Int):decide ((Sum.inl a:Key)=Sum.inl b)=(a == b):=by
 by_cases e:a=b
 . subst e; simp
 . have h:¬ (Sum.inl a:Key)=Sum.inl b:=fun q=>e (Sum.inl.inj q)
   rw [decide_eq_false h]
   exact (beq_eq_false_iff_ne.mpr e).symm
theorem key_rr (a b:Str):decide ((Sum.inr a:Key)=Sum.inr b)=decide (a=b):=by
 by_cases e:a=b
 . subst e; simp
 . have h:¬ (Sum.inr a:Key)=Sum.inr b:=fun q=>e (Sum.inr.inj q)
   rw [decide_eq_false h,decide_eq_false e]
theorem key_lr (a:Int) (b:Str):decide ((Sum.inl a:Key)=Sum.inr b)=false:=decide_eq_false (fun q=>nomatch q)
theorem key_rl (a:Str) (b:Int):decide ((Sum.inr a:Key)=Sum.inl b)=false:=decide_eq_false (fun q=>nomatch q)
def mixKind (prog:Program) (w:World):PySem.KeyKind prog w Key where
 is:=keyIs
 hash:=keyH w
 inj:=fun v a b ha hb=>by
  rcases keyIs_shape ha with ⟨i,t,rfl,rfl⟩ | ⟨x,t,rfl,rfl⟩
  . rcases keyIs_shape hb with ⟨j,u,rfl,e⟩ | ⟨y,u,rfl,e⟩
    . injection e with e1 _; rw [e1]
    . exact nomatch e
  . rcases keyIs_shape hb with ⟨j,u,rfl,e⟩ | ⟨y,u,rfl,e⟩
    . exact nomatch e
    . injection e with e1 _; rw [e1]
 byValue:=fun k v h=>by
  rcases keyIs_shape h with ⟨i,t,rfl,rfl⟩ | ⟨x,t,rfl,rfl⟩ <;> rfl
 pyHash:=fun hv h=>by
  rcases keyIs_shape hv with ⟨i,t,rfl,rfl⟩ | ⟨x,t,rfl,rfl⟩
  . exact wpAny_pyHash_int h
  . exact wpAny_pyHash_str h
 eqBool:=fun hu hv h=>by
  rcases keyIs_shape hu with ⟨i,t,rfl,rfl⟩ | ⟨x,t,rfl,rfl⟩
  . rcases keyIs_shape hv with ⟨j,u,rfl,rfl⟩ | ⟨y,u,rfl,rfl⟩
    . rw [key_ll] at h; exact wpAny_eqBool_int h
    . rw [key_lr] at h; exact SeqAt.EqAt.int_str i t y u _ _ _ _ h
  . rcases keyIs_shape hv with ⟨j,u,rfl,rfl⟩ | ⟨y,u,rfl,rfl⟩
    . rw [key_rl] at h; exact SeqAt.EqAt.str_int x t j u _ _ _ _ h
    . rw [key_rr] at h; exact wpAny_eqBool_str h
 «strs»:=fun k x t v h=>by
  rcases keyIs_shape h with ⟨i,u,rfl,e⟩ | ⟨y,u,rfl,e⟩
  . exact nomatch e
  . injection e with e1 _
    subst e1
    cases v <;> rfl
theorem mixKind_int (prog:Program) (w:World) (i:Int) (t:Tok):(mixKind prog w).is (.inl i) (.int i t)=true:=keyIs_int i t
theorem mixKind_str (prog:Program) (w:World) (x:Str) (t:Tok):(mixKind prog w).is (.inr x) (.str x t)=true:=keyIs_str x t
end L2
namespace L2
open PySem PySem.Spec PyProof.Rows
inductive V where
 | non | bl (b:Bool) | int (i:Int) | str (x:Str) | byt (b:Array UInt8) | flt (b:UInt64) | ref (a:Addr) | ty (n:String)
 deriving DecidableEq
def RelV:V->Value->Prop
 | .non,u=>u=Value.none
 | .bl b,u=>u=Value.bool b
 | .int i,u=>∃ t,u=Value.int i t
 | .str x,u=>∃ t,u=Value.str x t
 | .byt b,u=>∃ t,u=Value.bytes b t
 | .flt b,u=>∃ t,u=Value.float b t
 | .ref a,u=>u=Value.ref a
 | .ty n,u=>u=Value.type n
abbrev Vals:List V->List Value->Prop:=Paired RelV
theorem Vals.length {xs:List V} {us:List Value} (r:Vals xs us):xs.length=us.length:=Paired.length r
theorem Vals.get:∀ {xs:List V} {us:List Value} {i:Nat} {x:V},Vals xs us->xs[i]? = some x->∃ u,us[i]? = some u/\RelV x u
 | _,_,_,_,.nil,e=>by simp at e
 | _,_,0,_,.cons r _,e=>by simp at e; subst e; exact ⟨_,rfl,r⟩
 | _,_,i + 1,x,.cons _ t,e=>by
  obtain ⟨u,h1,h2⟩:=Vals.get (i:=i) (x:=x) t (by simpa using e)
  exact ⟨u,by simpa using h1,h2⟩
theorem Vals.append:∀ {xs ys:List V} {us ws:List Value},Vals xs us->Vals ys ws->Vals (xs ++ ys) (us ++ ws)
 | _,_,_,_,.nil,s=>s
 | _,_,_,_,.cons r t,s=>.cons r (Vals.append t s)
def RelO:Option V->Option Value->Prop
 | some v,some u=>RelV v u
 | none,none=>True
 | _,_=>False
def KV {κ:Type}:List (κ × V)->List (κ × Value)->Prop:=Paired fun (p:κ × V) (q:κ × Value)=>p.1=q.1/\RelV p.2 q.2
def kV:Key->V
 | .inl i=>.int i
 | .inr x=>.str x
inductive HO where
 /-- a list -/
 | lst (xs:List V)
 /-- a tuple (never changes) -/
 | tup (xs:List V)
 /-- a dict whose keys are ints and texts; one whose keys are tuples of ints and texts (the empty one is both) -/
 | dK (kvs:List (Key × V)) | dT (kvs:List (List Key × V))
 /-- a set of ints: its members,its size -/
 | set (S:Int->Bool) (n:Nat)
 /-- an instance of the class at C,its dict at dx,its attributes -/
 | ins (C dx:Addr) (fs:List (Str × V))
 /-- the dict of the instance at x -/
 | own (x:Addr)
 /-- the dict of an exception -/
 | xd (fs:List (Str × V))
 /-- a bound method,f of x -/
 | met (f x:Addr)
 /-- a range object lo,lo + 1,.. below hi -/
 | rng (lo hi:Int)
 /-- a thing that is known to the object (the script; a dict while a loop walks it): read,never written while it is so -/
 | frz (o:Obj) (u:HO)
 /-- a code object's table -/
 | tbl (ps:Array Value)
 /-- any other thing,by what is true of its one object (a def of one's own: SetO a S n:=HO.ext fun h=>..) -/
 | ext (φ:Heap->Prop)
abbrev Hp:=Addr->Option HO
def upd (H:Hp) (a:Addr) (o:HO):Hp:=fun b=>if b=a then some o else H b
theorem upd_same {H:Hp} {a:Addr} {o:HO}:upd H a o a=some o:=by unfold upd; rw [if_pos rfl]
theorem upd_ne {H:Hp} {a b:Addr} {o:HO} (h:b ≠ a):upd H a o b=H b:=by unfold upd; rw [if_neg h]
theorem upd_upd {H:Hp} {a:Addr} {o u:HO}:upd (upd H a o) a u=upd H a u:=by
 funext b; unfold upd; split <;> rfl
theorem ne_of {H:Hp} {a b:Addr} {o u:HO} (h:H a=some o) (h':H b=some u) (d:o ≠ u):a ≠ b:=by
 intro e; subst e; rw [h] at h'; exact d (Option.some.inj h')
theorem ne_of_none {H:Hp} {a b:Addr} {o:HO} (h:H a=some o) (h':H b=none):a ≠ b:=by
 intro e; subst e; rw [h] at h'; cases h'
section
variable (P:Program) (w:World)
def ObjOk (H:Hp) (h:Heap) (a:Addr):HO->Prop
 | .lst xs=>xs.length<=sizeLine/\∃ (its:List Value) (n:Nat),Vals xs its/\h.get? a=some { cls:=.type "list",data:=.seq its.toArray n }
 | .tup xs=>xs.length<=sizeLine/\∃ its:List Value,Vals xs its/\IsTup h a its.toArray
 | .dK kvs=>kvs.length<=sizeLine/\(a == sysModules)=false/\∃ vs,KV kvs vs/\h.DictOf (mixKind P w) a vs
 | .dT kvs=>kvs.length<=sizeLine/\(a == sysModules)=false/\∃ xs:List (List Key × Addr × Value),
  Paired (fun (p:List Key × V) (q:List Key × Addr × Value)=>p.1=q.1/\H q.2.1=some (.tup (p.1.map kV))/\RelV p.2 q.2.2) kvs xs /\
  ∃ o es ep,h.get? a=some o/\o.ExactDict/\o.data = .dict es ep/\es.toList=xs.map (entryOfKey (tupleKind (mixKind P w)))/\(xs.map (·.1)).Nodup
 | .set S n=>h.SetOf (intKind P w) a S n
 | .ins C dx fs=>H dx=some (.own a)/\fs.length<=1000/\dx ≠ a/\h.get? a=some (PySem.W.instObj C dx) /\
  ∃ mA,h.Ns1 dx mA/\(∀ f,RelO (fs.lookup f) (mA f))/\PySem.Within mA (fs.map (·.1))
 | .own _=>∃ o,h.get? a=some o
 | .xd fs=>∃ mA,h.Ns1 a mA/\∀ f,RelO (fs.lookup f) (mA f)
 | .rng lo hi=>∃ t u v,h.get? a=some { cls:=.type "range",data:=.fields #[.int lo t,.int hi u,.int 1 v] }
 | .frz o u=>h.get? a=some o/\ObjOk H h a u
 | .tbl ps=>h.get? a=some { cls:=.none,data:=.fields ps }
 | .met f x=>h.get? a=some (PySem.W.methodObj (.ref f) (.ref x))
 | .ext φ=>φ h/\(∃ o,h.get? a=some o)/\∀ h1 h2:Heap,φ h1->(∀ o,h1.get? a=some o->h2.get? a=some o)->φ h2
def HOk (H:Hp) (h:Heap):Prop:=∀ a o,H a=some o->ObjOk P w H h a o
end
section
variable {P:Program} {w:World} {H H':Hp} {h h':Heap} {a:Addr} {o:HO}
theorem ObjOk.lt (x:ObjOk P w H h a o):a < h.objs.size:=by
 cases o with
 | lst xs=>obtain ⟨_,_,_,_,e⟩:=x; exact Heap.lt_size e
 | tup xs=>obtain ⟨_,_,_,p⟩:=x; exact p.lt
 | dK kvs=>obtain ⟨_,_,_,_,o,_,_,e,_⟩:=x; exact Heap.lt_size e
 | dT kvs=>obtain ⟨_,_,_,_,o,_,_,e,_⟩:=x; exact Heap.lt_size e
 | set S n=>obtain ⟨o,_,_,_,e,_⟩:=x; exact Heap.lt_size e
 | ins C dx fs=>obtain ⟨_,_,_,e,_⟩:=x; exact Heap.lt_size e
 | own y=>obtain ⟨_,e⟩:=x; exact Heap.lt_size e
 | xd fs=>obtain ⟨_,⟨_,_,_,e,_⟩,_⟩:=x; exact Heap.lt_size e
 | rng lo hi=>obtain ⟨_,_,_,e⟩:=x; exact Heap.lt_size e
 | frz ob u=>obtain ⟨e,_⟩:=x; exact Heap.lt_size e
 | tbl ps=>exact Heap.lt_size (show h.get? a=some _ from x)
 | met f y=>exact Heap.lt_size (show h.get? a=some _ from x)
 | ext φ=>obtain ⟨_,⟨_,e⟩,_⟩:=x; exact Heap.lt_size e
theorem Paired.mapP {α β:Type} {F G:α->β->Prop}:∀ {l₁:List α} {l₂:List β},Paired F l₁ l₂->(∀ a b,F a b->G a b)->Paired G l₁ l₂
 | _,_,.nil,_=>.nil
 | _,_,.cons r t,f=>.cons (f _ _ r) (Paired.mapP t f)
theorem ObjOk.stay (x:ObjOk P w H h a o) (k:∀ b u,(b=a \/ H b=some (.own a))->h.get? b=some u->h'.get? b=some u)
 (ho:∀ b,H b=some (.own a)->H' b=some (.own a)) (ht:∀ b xs,H b=some (.tup xs)->H' b=some (.tup xs)):ObjOk P w H' h' a o:=by
 induction o with
 | lst xs=>obtain ⟨z,its,n,r,e⟩:=x; exact ⟨z,its,n,r,k _ _ (.inl rfl) e⟩
 | tup xs=>obtain ⟨z,its,r,ob,e,c⟩:=x; exact ⟨z,its,r,ob,k _ _ (.inl rfl) e,c⟩
 | dK kvs=>obtain ⟨z,y,vs,r,ob,es,ep,e,c⟩:=x; exact ⟨z,y,vs,r,ob,es,ep,k _ _ (.inl rfl) e,c⟩
 | dT kvs=>
  obtain ⟨z,y,xs,r,ob,es,ep,e,c⟩:=x
  exact ⟨z,y,xs,Paired.mapP r fun p q z=>⟨z.1,ht _ _ z.2.1,z.2.2⟩,ob,es,ep,k _ _ (.inl rfl) e,c⟩
 | set S n=>obtain ⟨ob,es,ep,t,e,c⟩:=x; exact ⟨ob,es,ep,t,k _ _ (.inl rfl) e,c⟩
 | ins C dx fs=>
  obtain ⟨d,z,ne,e,mA,⟨od,es,ep,e2,c⟩,r⟩:=x
  exact ⟨ho _ d,z,ne,k _ _ (.inl rfl) e,mA,⟨od,es,ep,k _ _ (.inr d) e2,c⟩,r⟩
 | own y=>obtain ⟨ob,e⟩:=x; exact ⟨ob,k _ _ (.inl rfl) e⟩
 | xd fs=>obtain ⟨mA,⟨od,es,ep,e,c⟩,r⟩:=x; exact ⟨mA,⟨od,es,ep,k _ _ (.inl rfl) e,c⟩,r⟩
 | rng lo hi=>obtain ⟨t,u,v,e⟩:=x; exact ⟨t,u,v,k _ _ (.inl rfl) e⟩
 | frz ob u ih=>obtain ⟨e,q⟩:=x; exact ⟨k _ _ (.inl rfl) e,ih q⟩
 | tbl ps=>
  have e:h.get? a=some { cls:=.none,data:=.fields ps }:=x
  show h'.get? a=some { cls:=.none,data:=.fields ps }
  exact k a _ (.inl rfl) e
 | met f y=>
  have e:h.get? a=some (PySem.W.methodObj (.ref f) (.ref y)):=x
  show h'.get? a=some (PySem.W.methodObj (.ref f) (.ref y))
  exact k a _ (.inl rfl) e
 | ext φ=>obtain ⟨p,⟨o,e⟩,st⟩:=x; exact ⟨st _ _ p fun o q=>k _ _ (.inl rfl) q,⟨o,k _ _ (.inl rfl) e⟩,st⟩
theorem HOk.lt (x:HOk P w H h) (e:H a=some o):a < h.objs.size:=(x a o e).lt
theorem HOk.fresh (x:HOk P w H h) (e:h.objs.size<=a):H a=none:=by
 cases q:H a with
 | none=>rfl
 | some u=>exact absurd (Nat.lt_of_lt_of_le (x.lt q) e) (Nat.lt_irrefl _)
theorem HOk.kept (x:HOk P w H h) (k:∀ b u,h.get? b=some u->h'.get? b=some u):HOk P w H h':=fun a o e=>
 (x a o e).stay (fun b u _ q=>k b u q) (fun _ q=>q) fun _ _ q=>q
theorem HOk.laid (x:HOk P w H h) (k:∀ b u,h.get? b=some u->h'.get? b=some u) (hp:h.objs.size<=a) (new:ObjOk P w (upd H a o) h' a o):HOk P w (upd H a o) h':=fun b u e=>by
 have hn:=x.fresh hp
 by_cases hb:b=a
 . subst hb; rw [upd_same] at e; cases e; exact new
 . rw [upd_ne hb] at e
   exact (x b u e).stay (fun c v _ q=>k c v q) (fun c q=>by rw [upd_ne (ne_of_none q hn)]; exact q) fun c xs q=>by rw [upd_ne (ne_of_none q hn)]; exact q
end
def Rd (H:Hp) (a:Addr) (u:HO):Prop:=H a=some u \/ ∃ o,H a=some (.frz o u)
theorem Rd.ok {P:Program} {w:World} {H:Hp} {h:Heap} {a:Addr} {u:HO} (r:Rd H a u) (x:HOk P w H h):ObjOk P w H h a u:=by
 rcases r with r | ⟨o,r⟩
 . exact x a u r
 . obtain ⟨_,q⟩:=x a _ r
   exact q
def Mut:Option HO->Prop
 | some (.lst _)=>True
 | some (.dK _)=>True
 | some (.dT _)=>True
 | some (.set _ _)=>True
 | some (.ins _ _ _)=>True
 | some (.ext _)=>True
 | _=>False
section
variable {P:Program} {w:World} {H:Hp} {h h':Heap} {x e:Addr} {o':HO}
theorem HOk.write (ok:HOk P w H h) (mu:Mut (H x)) (he:e=x \/ H e=some (.own x)) (k:∀ b u,b ≠ e->h.get? b=some u->h'.get? b=some u) (heo:∃ u,h'.get? e=some u)
 (new:ObjOk P w (upd H x o') h' x o'):HOk P w (upd H x o') h':=fun b u q=>by
 have nown:∀ c y,H c=some (.own y)->c ≠ x:=fun c y r z=>by subst z; rw [r] at mu; exact mu
 have ntup:∀ c xs,H c=some (.tup xs)->c ≠ x:=fun c xs r z=>by subst z; rw [r] at mu; exact mu
 by_cases hb:b=x
 . subst hb; rw [upd_same] at q; cases q; exact new
 . rw [upd_ne hb] at q
   by_cases hbe:b=e
   . have q':H b=some (.own x):=by
      rcases he with z | z
      . exact absurd (hbe.trans z) hb
      . rw [hbe]; exact z
     rw [q] at q'; cases q'
     obtain ⟨v,hv⟩:=heo
     exact ⟨v,by rw [hbe]; exact hv⟩
   . refine (ok b u q).stay (fun c v hc r=>k c v ?_ r) (fun c r=>by rw [upd_ne (nown c b r)]; exact r) fun c xs r=>by rw [upd_ne (ntup c xs r)]; exact r
     rcases hc with rfl | hc
     . exact hbe
     . rintro rfl
       rcases he with z | z
       . exact nown c b hc z
       . rw [hc] at z; cases z; exact hb rfl
end
structure Un (fs ex:List Addr) (H H':Hp) (h h':Heap):Prop where
 keep:∀ b o,h.get? b=some o->H b=none->b ∉ fs->b ∉ ex->h'.get? b=some o
 slot:∀ b o,h.get? b=some o->H b=none->b ∈ fs->b ∉ ex->∃ sl,h'.get? b=some { o with slots:=sl }
 free:∀ b o,h.get? b=some o->H b=none->b ∉ ex->H' b=none
 there:∀ b o,h.get? b=some o->b ∉ ex->∃ o',h'.get? b=some o'
 tups:∀ b xs,H b=some (.tup xs)->H' b=some (.tup xs)
 frzs:∀ b o u,H b=some (.frz o u)->H' b=some (.frz o u)
 tbls:∀ b ps,H b=some (.tbl ps)->∃ more,H' b=some (.tbl (ps ++ more))
section
variable {fs fs' ex ex':List Addr} {H H1 H2:Hp} {h h1 h2 h':Heap} {a x e:Addr} {o:HO}
theorem Un.any (u:Un fs ex H H1 h h1) {b:Addr} {ob:Obj} (q:h.get? b=some ob) (n:H b=none) (hx:b ∉ ex):∃ sl,h1.get? b=some { ob with slots:=sl }:=by
 by_cases hb:b ∈ fs
 . exact u.slot b ob q n hb hx
 . exact ⟨ob.slots,u.keep b ob q n hb hx⟩
theorem Un.kept (k:∀ b u,h.get? b=some u->h'.get? b=some u):Un fs ex H H h h':=
 ⟨fun b ob q _ _ _=>k b ob q,fun b ob q _ _ _=>⟨ob.slots,k b ob q⟩,fun _ _ _ n _=>n,fun b ob q _=>⟨ob,k b ob q⟩,fun _ _ q=>q,fun _ _ _ q=>q,fun _ ps q=>⟨#[],by rw [q]; simp⟩⟩
theorem Un.refl:Un fs ex H H h h:=Un.kept fun _ _ q=>q
theorem Un.laid (k:∀ b u,h.get? b=some u->h'.get? b=some u) (hp:h.objs.size<=a) (hn:H a=none):Un fs ex H (upd H a o) h h' where
 keep:=fun b u q _ _ _=>k b u q
 slot:=fun b u q _ _ _=>⟨u.slots,k b u q⟩
 free:=fun b u q n _=>by rw [upd_ne (Nat.ne_of_lt (Nat.lt_of_lt_of_le (Heap.lt_size q) hp))]; exact n
 there:=fun b u q _=>⟨u,k b u q⟩
 tups:=fun b xs q=>by rw [upd_ne (ne_of_none q hn)]; exact q
 frzs:=fun b u xs q=>by rw [upd_ne (ne_of_none q hn)]; exact q
 tbls:=fun b ps q=>⟨#[],by rw [upd_ne (ne_of_none q hn),q]; simp⟩
theorem Un.write (mu:Mut (H x)) (he:e=x \/ H e=some (.own x)) (k:∀ b u,b ≠ e->h.get? b=some u->h'.get? b=some u) (heo:∃ u,h'.get? e=some u):Un fs ex H (upd H x o) h h':=by
 have hx:∀ b,H b=none->b ≠ x:=fun b n z=>by subst z; rw [n] at mu; exact mu
 have hb:∀ b,H b=none->b ≠ e:=fun b n z=>by
  subst z
  rcases he with r | r
  . exact hx b n r
  . rw [n] at r; cases r
 have hm:∀ b u,H b=some u -> ¬ Mut (some u)->b ≠ x:=fun b u q nm z=>by subst z; rw [q] at mu; exact nm mu
 refine ⟨fun b u q n _ _=>k b u (hb b n) q,fun b u q n _ _=>⟨u.slots,k b u (hb b n) q⟩,fun b u q n _=>by rw [upd_ne (hx b n)]; exact n,fun b u q _=>?_,
  fun b xs q=>by rw [upd_ne (hm b _ q fun z=>z)]; exact q,fun b u xs q=>by rw [upd_ne (hm b _ q fun z=>z)]; exact q,fun b ps q=>⟨#[],by rw [upd_ne (hm b _ q fun z=>z),q]; simp⟩⟩
 by_cases hbe:b=e
 . subst hbe; exact heo
 . exact ⟨u,k b u hbe q⟩
end
def trk (h:Heap) (H:Hp):List Addr:=(List.range h.objs.size).filter fun a=>(H a).isSome
def hidT (h:Heap) (H:Hp):Heap:=PySem.W.hideAll h (trk h H)
theorem hidT_size (h:Heap) (H:Hp):(hidT h H).objs.size=h.objs.size:=PySem.W.hideAll_size _ _
theorem hidT_get {h:Heap} {H:Hp} {b:Addr} {o:Obj} (e:h.get? b=some o) (n:H b=none):(hidT h H).get? b=some o:=
 PySem.W.hideAll_get _ e fun hm=>by
  have q:(H b).isSome=true:=(List.mem_filter.mp hm).2
  rw [n] at q; simp at q
theorem of_hidT {h:Heap} {H:Hp} {b:Addr} {o:Obj} (e:(hidT h H).get? b=some o):h.get? b=some o/\H b=none:=by
 have e':h.get? b=some o:=PySem.W.of_hideAll (trk h H) e
 refine ⟨e',?_⟩
 cases q:H b with
 | none=>rfl
 | some x=>
  have hm:b ∈ trk h H:=List.mem_filter.mpr ⟨List.mem_range.mpr (Heap.lt_size e'),by simp [q]⟩
  have z:(hidT h H).get? b=none:=PySem.W.hideAll_none (trk h H) hm
  rw [z] at e; cases e
end L2
namespace L2
open PySem PySem.Spec PyProof.Rows
structure Mod (K:PySem.W.Frag) (mg:Str->Option Value) (base:Heap):Prop where
 kin:K.In base
 glob:base.Ns mainGlobals mg
 blt:∃ mb,base.Ns builtinsNs mb/\∀ x:Str,x ≠ "__name__" -> mb x=bootBuiltins x
 nolimit:base.NoLimit
structure Cx where
 prog:Program
 w:World
 K:PySem.W.Frag
 mg:Str->Option Value
 base:Heap
 A:Around
 N:List Str
 s_0:Shared
 H_0:Hp
 env:Env
 outer:List Env
 stack:List Env
 ex:List Addr
 fn:Str->Bool
 calm:Bool
 pn:List (Addr × Obj)
 xe:Value->Shared->Prop
def frs (l:List Env):List Addr:=l.filterMap (·.frame)
abbrev Cx.fs (X:Cx):List Addr:=frs X.outer
def Vis (sc:Scope) (x:Str):Prop:=sc.names.lookup x=some .local \/ sc.names.lookup x=some .cell \/ sc.names.lookup x=some .free
def Loc (sc:Scope) (x:Str):Prop:=sc.names.lookup x=some .local \/ sc.names.lookup x=some .cell
def Look (env:Env) (h:Heap) (m:Str->Option Value) (x:Str) (u:Value):Prop:=
 (env.kindOf x=some .local/\m x=some u) \/ ((env.kindOf x=some .cell \/ env.kindOf x=some .free)/\∃ c,env.cells.lookup x=some c/\h.IsCell c (some u))
structure Cx.Ok (X:Cx):Prop where
 mod:Mod X.K X.mg X.base
 kind:X.env.scope.kind = .function
 glob:X.env.globals=mainGlobals
 blt:X.env.builtins=builtinsNs
 above:X.s_0.heap.objs.size<=X.env.locals
 inj:∀ x y c,X.env.cells.lookup x=some c->X.env.cells.lookup y=some c->x=y
 has:∀ x,(X.env.kindOf x=some .cell \/ X.env.kindOf x=some .free)->∃ c,X.env.cells.lookup x=some c
 cab:∀ x c,X.fn x=true->X.env.cells.lookup x=some c->X.s_0.heap.objs.size<=c
 hd:X.calm=true->X.A.handled=none
 frames:X.A.frames=some X.stack
 stk:X.stack=X.outer \/ (X.stack=X.env :: X.outer/\X.env.frame=some X.env.locals)
 exf:∀ b ∈ X.ex,b ≠ X.env.locals/\∀ x c,X.env.cells.lookup x=some c->c ≠ b
 bs:∀ b o,X.base.get? b=some o->X.s_0.heap.get? b=some o/\X.H_0 b=none
 bsz:X.base.objs.size<=X.s_0.heap.objs.size
 noex:∀ b o,X.base.get? b=some o->b ∉ X.ex
 exfs:∀ b ∈ X.ex,b ∉ X.fs
 funs:X.s_0.heap.FunFrames X.base X.outer
 frf:∀ b ∈ X.fs,X.H_0 b=none
structure Inv (X:Cx) (pins:List (Addr × Obj)) (σ:List (Option V)) (H:Hp) (s:Shared):Prop where
 ok:X.Ok
 os:s.os=X.s_0.os
 bare:AllBare s.gens
 base:Un X.fs X.ex X.H_0 H X.s_0.heap s.heap
 loc:∃ m,s.heap.Ns X.env.locals m/\∀ (i:Nat) (x:Str) (v:V),X.N[i]? = some x->σ[i]? = some (some v)->Vis X.env.scope x->∃ u,RelV v u/\Look X.env s.heap m x u
 cell:∀ x c,X.env.cells.lookup x=some c->∃ v,s.heap.IsCell c v
 free:H X.env.locals=none
 freeC:∀ x c,X.env.cells.lookup x=some c->H c=none
 pin:∀ p ∈ X.pn ++ pins,s.heap.get? p.1=some p.2/\H p.1=none/\p.1 ≠ X.env.locals/\p.1 ∉ X.fs/\∀ v,p.2.data ≠ .cell v
 hok:HOk X.prog X.w H s.heap
 len:σ.length=X.N.length
section
variable {X:Cx} {pins:List (Addr × Obj)} {σ:List (Option V)} {H H':Hp} {s:Shared} {h':Heap}
theorem Cx.Ok.nofr (ok:X.Ok) {b:Addr} {o:Obj} (e:X.base.get? b=some o):b ∉ X.fs:=fun hb=>by
 have:=(ok.funs.mem hb).1
 rw [e] at this; cases this
theorem Inv.bs (I:Inv X pins σ H s):∀ b o,X.base.get? b=some o->s.heap.get? b=some o/\H b=none:=fun b o e=>
 ⟨I.base.keep b o (I.ok.bs b o e).1 (I.ok.bs b o e).2 (I.ok.nofr e) (I.ok.noex b o e),I.base.free b o (I.ok.bs b o e).1 (I.ok.bs b o e).2 (I.ok.noex b o e)⟩
theorem Inv.bk (I:Inv X pins σ H s):∀ b o,X.base.get? b=some o->s.heap.get? b=some o:=fun b o e=>(I.bs b o e).1
theorem Inv.mod (I:Inv X pins σ H s):Mod X.K X.mg X.base:=I.ok.mod
theorem Inv.kIn (I:Inv X pins σ H s):X.K.In s.heap:=I.ok.mod.kin.keeps I.bk
theorem Inv.fr (I:Inv X pins σ H s):∃ m,Fr X.base X.env.locals s.heap m:=
 let ⟨m,hn,_⟩:=I.loc
 ⟨m,hn,I.bk,Nat.le_trans I.ok.bsz I.ok.above⟩
theorem Inv.lt (I:Inv X pins σ H s):X.env.locals < s.heap.objs.size:=let ⟨_,hn,_⟩:=I.loc; hn.lt
theorem Inv.sz (I:Inv X pins σ H s):X.s_0.heap.objs.size<=s.heap.objs.size:=Nat.le_trans I.ok.above (Nat.le_of_lt I.lt)
theorem Inv.nofs (I:Inv X pins σ H s) {a:Addr} (h:s.heap.objs.size<=a):a ∉ X.fs:=fun hb=>by
 obtain ⟨_,o,ho,_⟩:=I.ok.funs.mem hb
 exact absurd (Nat.lt_of_lt_of_le (Heap.lt_size ho) (Nat.le_trans I.sz h)) (Nat.lt_irrefl _)
theorem Inv.cne (I:Inv X pins σ H s):∀ x c,X.env.cells.lookup x=some c->c ≠ X.env.locals:=fun x c e z=>by
 obtain ⟨v,o,ho,hd⟩:=I.cell x c e
 obtain ⟨m,⟨o',es,ep,ho',hd',_⟩,_⟩:=I.loc
 rw [z,ho'] at ho; cases ho; rw [hd'] at hd; cases hd
theorem Inv.funs (I:Inv X pins σ H s):s.heap.FunFrames X.base X.outer:=by
 have all:∀ (l:List Env),(∀ b ∈ frs l,b ∈ X.fs)->X.s_0.heap.FunFrames X.base l->s.heap.FunFrames X.base l:=by
  intro l
  induction l with
  | nil=>intro _ _; trivial
  | cons env r ih=>
   intro hs hl
   obtain ⟨hk,⟨L,o,hf,hn,ho,hd⟩,hr⟩:=hl
   have hL:L ∈ X.fs:=hs L (by unfold frs; rw [List.filterMap_cons,hf]; exact List.mem_cons_self)
   obtain ⟨sl,e⟩:=I.base.slot L o ho (I.ok.frf L hL) hL fun z=>I.ok.exfs L z hL
   exact ⟨hk,⟨L,_,hf,hn,e,hd⟩,ih (fun b hb=>hs b (by unfold frs; rw [List.filterMap_cons,hf]; exact List.mem_cons_of_mem _ hb)) hr⟩
 exact all X.outer (fun _ hb=>hb) I.ok.funs
theorem Inv.stack (I:Inv X pins σ H s):s.heap.FunFrames X.base X.stack:=by
 rcases I.ok.stk with e | ⟨e,hf⟩
 . rw [e]; exact I.funs
 . rw [e]
   obtain ⟨m,hn,_⟩:=I.loc
   refine .cons (by rw [I.ok.kind]; decide) hf hn ?_ I.funs
   exact Heap.get?_none_of_le (Nat.le_trans I.ok.bsz I.ok.above)
theorem Inv.stkSub (I:Inv X pins σ H s):∀ b ∈ frs X.stack,b ∈ X.env.locals :: X.fs:=fun b hb=>by
 rcases I.ok.stk with e | ⟨e,hf⟩
 . rw [e] at hb; exact List.mem_cons_of_mem _ hb
 . rw [e] at hb
   unfold frs at hb
   rw [List.filterMap_cons,hf] at hb
   exact hb
theorem Inv.stkFree (I:Inv X pins σ H s):∀ b ∈ frs X.stack,H b=none:=fun b hb=>by
 rcases List.mem_cons.mp (I.stkSub b hb) with e | hb
 . rw [e]; exact I.free
 . obtain ⟨_,o,ho,_⟩:=I.ok.funs.mem hb
   exact I.base.free b o ho (I.ok.frf b hb) fun z=>I.ok.exfs b z hb
theorem Inv.step {g':Array GenState} {t':Nat} {d':Drawn} {ch:List Addr} (I:Inv X pins σ H s)
 (hch:∀ b ∈ ch,(b ∈ X.ex \/ X.s_0.heap.objs.size<=b)/\b ≠ X.env.locals/\(∀ x c,X.env.cells.lookup x=some c->c ≠ b)/\∀ p ∈ X.pn ++ pins,p.1 ≠ b)
 (keep:∀ b o,b ≠ X.env.locals->b ∉ X.fs->b ∉ ch->s.heap.get? b=some o->H b=none->h'.get? b=some o)
 (slot:∀ b o,b ≠ X.env.locals->b ∈ X.fs->b ∉ ch->s.heap.get? b=some o->H b=none->∃ sl,h'.get? b=some { o with slots:=sl }) (free:∀ b o,b ∉ ch->s.heap.get? b=some o->H b=none->H' b=none)
 (there:∀ b o,b ∉ ch->s.heap.get? b=some o->∃ o',h'.get? b=some o')
 (tups:∀ b xs,H b=some (.tup xs)->H' b=some (.tup xs)) (frzs:∀ b o u,H b=some (.frz o u)->H' b=some (.frz o u)) (tbls:∀ b ps,H b=some (.tbl ps)->∃ more,H' b=some (.tbl (ps ++ more)))
 (ns:∀ m,s.heap.Ns X.env.locals m->h'.Ns X.env.locals m) (hok:HOk X.prog X.w H' h') (hg:AllBare g') :
 Inv X pins σ H' { s with heap:=h',gens:=g',drawn:=d',toks:=t' }:=by
 have neL:∀ b o,X.s_0.heap.get? b=some o->b ≠ X.env.locals:=fun b o e=>Nat.ne_of_lt (Nat.lt_of_lt_of_le (Heap.lt_size e) I.ok.above)
 have neC:∀ b o,X.s_0.heap.get? b=some o->b ∉ X.ex->b ∉ ch:=fun b o e hx hb=>by
  rcases (hch b hb).1 with z | z
  . exact hx z
  . exact absurd (Nat.lt_of_lt_of_le (Heap.lt_size e) z) (Nat.lt_irrefl _)
 have cellK:∀ x c,X.env.cells.lookup x=some c->∀ v,s.heap.IsCell c v->h'.IsCell c v:=fun x c e v ⟨o,ho,hd⟩=>by
  have nch:c ∉ ch:=fun z=>(hch c z).2.2.1 x c e rfl
  by_cases hc:c ∈ X.fs
  . obtain ⟨sl,q⟩:=slot c o (I.cne x c e) hc nch ho (I.freeC x c e)
    exact ⟨_,q,hd⟩
  . exact ⟨o,keep c o (I.cne x c e) hc nch ho (I.freeC x c e),hd⟩
 refine ⟨I.ok,I.os,hg,⟨fun b o e n hb hx=>?_,fun b o e n hb hx=>?_,fun b o e n hx=>?_,fun b o e hx=>?_,fun b xs e=>tups b xs (I.base.tups b xs e),fun b o xs e=>frzs b o xs (I.base.frzs b o xs e),fun b ps e=>?_⟩,?_,fun x c e=>?_,?_,fun x c e=>?_,fun p hp=>?_,hok,I.len⟩
 . exact keep b o (neL b o e) hb (neC b o e hx) (I.base.keep b o e n hb hx) (I.base.free b o e n hx)
 . obtain ⟨sl,e1⟩:=I.base.slot b o e n hb hx
   obtain ⟨sl',e2⟩:=slot b _ (neL b o e) hb (neC b o e hx) e1 (I.base.free b o e n hx)
   exact ⟨sl',e2⟩
 . obtain ⟨o',e1⟩:=I.base.there b o e hx
   exact free b o' (neC b o e hx) e1 (I.base.free b o e n hx)
 . obtain ⟨o',e1⟩:=I.base.there b o e hx
   exact there b o' (neC b o e hx) e1
 . obtain ⟨m1,e1⟩:=I.base.tbls b ps e
   obtain ⟨m2,e2⟩:=tbls b _ e1
   exact ⟨m1 ++ m2,by rw [e2,Array.append_assoc]⟩
 . obtain ⟨m,hn,hl⟩:=I.loc
   refine ⟨m,ns m hn,fun i x v e1 e2 e3=>?_⟩
   obtain ⟨u,r,l⟩:=hl i x v e1 e2 e3
   refine ⟨u,r,?_⟩
   rcases l with l | ⟨k,c,e,z⟩
   . exact .inl l
   . exact .inr ⟨k,c,e,cellK x c e _ z⟩
 . obtain ⟨v,z⟩:=I.cell x c e
   exact ⟨v,cellK x c e v z⟩
 . obtain ⟨m,⟨o,_,_,ho,_⟩,_⟩:=I.loc
   exact free _ o (fun z=>(hch _ z).2.1 rfl) ho I.free
 . obtain ⟨v,o,ho,hd⟩:=I.cell x c e
   exact free c o (fun z=>(hch c z).2.2.1 x c e rfl) ho (I.freeC x c e)
 . obtain ⟨e,n,ne,nf,d⟩:=I.pin p hp
   have nch:p.1 ∉ ch:=fun z=>(hch p.1 z).2.2.2 p hp rfl
   exact ⟨keep p.1 p.2 ne nf nch e n,free p.1 p.2 nch e n,ne,nf,d⟩
theorem Inv.un {t':Nat} (I:Inv X pins σ H s) (u:Un X.fs [] H H' s.heap h') (hok:HOk X.prog X.w H' h'):Inv X pins σ H' { s with heap:=h',toks:=t' }:=by
 obtain ⟨m,⟨o,es,ep,ho,r⟩,_⟩:=id I.loc
 obtain ⟨sl,hL⟩:=u.any ho I.free (by simp)
 exact I.step (g':=s.gens) (d':=s.drawn) (ch:=[]) (fun _ z=>nomatch z) (fun b o _ hb _ e n=>u.keep b o e n hb (by simp)) (fun b o _ hb _ e n=>u.slot b o e n hb (by simp)) (fun b o _ e n=>u.free b o e n (by simp)) (fun b o _ e=>u.there b o e (by simp)) u.tups u.frzs u.tbls (fun m' hm=>by
  obtain ⟨o',es',ep',ho',r'⟩:=hm
  rw [ho] at ho'; cases ho'
  exact ⟨_,es',ep',hL,r'⟩) hok I.bare
theorem Inv.call {g':Array GenState} {t':Nat} {d':Drawn} {ch:List Addr} (I:Inv X pins σ H s) (u:Un (frs X.stack) ch H H' s.heap h') (hok:HOk X.prog X.w H' h') (hg:AllBare g')
 (hch:∀ b ∈ ch,(b ∈ X.ex \/ X.s_0.heap.objs.size<=b)/\b ≠ X.env.locals/\(∀ x c,X.env.cells.lookup x=some c->c ≠ b)/\∀ p ∈ X.pn ++ pins,p.1 ≠ b) :
 Inv X pins σ H' { s with heap:=h',gens:=g',drawn:=d',toks:=t' }:=by
 obtain ⟨m,⟨o,es,ep,ho,r⟩,_⟩:=id I.loc
 obtain ⟨sl,hL⟩:=u.any ho I.free fun z=>(hch _ z).2.1 rfl
 exact I.step (ch:=ch) hch (fun b o hL hb hc e n=>u.keep b o e n (fun z=>(List.mem_cons.mp (I.stkSub b z)).elim hL hb) hc) (fun b o _ _ hc e n=>u.any e n hc) (fun b o hc e n=>u.free b o e n hc) (fun b o hc e=>u.there b o e hc) u.tups u.frzs u.tbls (fun m' hm=>by
  obtain ⟨o',es',ep',ho',r'⟩:=hm
  rw [ho] at ho'; cases ho'
  exact ⟨_,es',ep',hL,r'⟩) hok hg
theorem Inv.turned {t':Nat} {it:Addr} (I:Inv X pins σ H s) (k:∀ b o,b ≠ it->s.heap.get? b=some o->h'.get? b=some o) (hn:H it=none) (hL:it ≠ X.env.locals)
 (h1:it ∈ X.ex \/ X.s_0.heap.objs.size<=it) (h2:∀ x c,X.env.cells.lookup x=some c->c ≠ it) (h3:∀ p ∈ X.pn ++ pins,p.1 ≠ it):Inv X pins σ H { s with heap:=h',toks:=t' }:=by
 have nit:∀ b u,H b=some u->b ≠ it:=fun b u e z=>by rw [z,hn] at e; cases e
 refine I.step (g':=s.gens) (d':=s.drawn) (ch:=[it]) (fun b hb=>?_) (fun b o _ _ hc e _=>k b o (fun z=>hc (by simp [z])) e) (fun b o _ _ hc e _=>⟨o.slots,k b o (fun z=>hc (by simp [z])) e⟩) (fun _ _ _ _ n=>n)
  (fun b o hc e=>⟨o,k b o (fun z=>hc (by simp [z])) e⟩) (fun _ _ e=>e) (fun _ _ _ e=>e) (fun b ps e=>⟨#[],by rw [e]; simp⟩) (fun m hm=>?_) (fun b u e=>?_) I.bare
 . have e:b=it:=by simpa using hb
   subst e
   exact ⟨h1,hL,h2,h3⟩
 . obtain ⟨o,es,ep,ho,r⟩:=hm
   exact ⟨o,es,ep,k _ o (Ne.symm hL) ho,r⟩
 . refine (I.hok b u e).stay (fun c v hc q=>k c v ?_ q) (fun _ q=>q) fun _ _ q=>q
   rcases hc with z | z
   . rw [z]; exact nit b u e
   . exact nit c _ z
theorem Inv.tok (I:Inv X pins σ H s) (t:Nat):Inv X pins σ H { s with toks:=t }:=I.un (h':=s.heap) (t':=t) Un.refl I.hok
theorem Inv.kept {t':Nat} (I:Inv X pins σ H s) (k:∀ b u,s.heap.get? b=some u->h'.get? b=some u):Inv X pins σ H { s with heap:=h',toks:=t' }:=I.un (Un.kept k) (I.hok.kept k)
theorem Inv.laid {a:Addr} {o:HO} {t':Nat} (I:Inv X pins σ H s) (k:∀ b u,s.heap.get? b=some u->h'.get? b=some u) (hp:s.heap.objs.size<=a) (new:ObjOk X.prog X.w (upd H a o) h' a o) :
 Inv X pins σ (upd H a o) { s with heap:=h',toks:=t' }:=I.un (Un.laid k hp (I.hok.fresh hp)) (I.hok.laid k hp new)
theorem Inv.write {x e:Addr} {o:HO} {t':Nat} (I:Inv X pins σ H s) (mu:Mut (H x)) (he:e=x \/ H e=some (.own x)) (k:∀ b u,b ≠ e->s.heap.get? b=some u->h'.get? b=some u) (heo:∃ u,h'.get? e=some u)
 (new:ObjOk X.prog X.w (upd H x o) h' x o):Inv X pins σ (upd H x o) { s with heap:=h',toks:=t' }:=I.un (Un.write mu he k heo) (I.hok.write mu he k heo new)
theorem Inv.weak {σ':List (Option V)} (I:Inv X pins σ H s) (hl:σ'.length=σ.length) (w:∀ (i:Nat) v,σ'[i]? = some (some v)->σ[i]? = some (some v)):Inv X pins σ' H s:=
 ⟨I.ok,I.os,I.bare,I.base,let ⟨m,hn,hl'⟩:=I.loc; ⟨m,hn,fun i x v e1 e2 e3=>hl' i x v e1 (w i v e2) e3⟩,I.cell,I.free,I.freeC,I.pin,I.hok,hl.trans I.len⟩
theorem Inv.pins_of {pins':List (Addr × Obj)} (I:Inv X pins σ H s) (h:∀ p ∈ pins',s.heap.get? p.1=some p.2/\H p.1=none/\p.1 ≠ X.env.locals/\p.1 ∉ X.fs/\∀ v,p.2.data ≠ .cell v):Inv X pins' σ H s:=
 ⟨I.ok,I.os,I.bare,I.base,I.loc,I.cell,I.free,I.freeC,fun p hp=>(List.mem_append.mp hp).elim (fun z=>I.pin p (List.mem_append_left _ z)) (h p),I.hok,I.len⟩
theorem nodup_ix {N:List Str} (hN:N.Nodup) {i j:Nat} {x:Str} (a:N[i]? = some x) (b:N[j]? = some x):i=j:=by
 obtain ⟨h1,e1⟩:=List.getElem?_eq_some_iff.mp a
 obtain ⟨h2,e2⟩:=List.getElem?_eq_some_iff.mp b
 exact (List.getElem_inj hN).mp (e1.trans e2.symm)
theorem store_ok2 {M:Model} {A:Around} {E:Value->Shared->Prop} {i:Nat} {x:Str} {v:V} {u:Value} {Q:Unit->Shared->Prop} (I:Inv X pins σ H s) (hN:X.N.Nodup) (hi:X.N[i]? = some x) (hx:Loc X.env.scope x) (r:RelV v u)
 (h:∀ s',Inv X pins (σ.set i (some v)) H s'->(∃ a,Heap.SameBut a s.heap s'.heap/\(a=X.env.locals \/ X.env.cells.lookup x=some a))->Q () s') (hf:X.fn x=true \/ X.env.scope.names.lookup x=some .local:=by first | exact .inl rfl | exact .inr rfl | assumption):wpAny M A (storeName X.env x u) Q E s:=by
 obtain ⟨m,hn,hl⟩:=id I.loc
 have hcls:(X.env.scope.kind == .class || (X.env.scope.kind == .module && X.env.locals != X.env.globals))=false:=by rw [I.ok.kind]; rfl
 have hiσ:i < σ.length:=by rw [I.len]; exact (List.getElem?_eq_some_iff.mp hi).1
 have cne:=I.cne
 have tracked:∀ {a:Addr} {h':Heap},(∃ o,s.heap.get? a=some o/\H a=none)->Heap.SameBut a s.heap h'->HOk X.prog X.w H h':=fun {a h'} ha hs b ob e=>by
  obtain ⟨_,_,hfree⟩:=ha
  refine (I.hok b ob e).stay (fun c w' hc q=>(hs.2 c ?_).trans q) (fun _ q=>q) fun _ _ q=>q
  rintro rfl
  rcases hc with rfl | hc
  . rw [hfree] at e; cases e
  . rw [hfree] at hc; cases hc
 rcases hx with hk | hk
 . refine wpAny_storeName_local hk hn (fun h' hn' hs=>?_) hcls
   obtain ⟨oL,_,_,hoL,_⟩:=id hn
   refine h _ ⟨I.ok,I.os,I.bare,⟨fun b o e n hb hx=>?_,fun b o e n hb hx=>?_,I.base.free,fun b o e hx=>?_,I.base.tups,I.base.frzs,I.base.tbls⟩,⟨_,hn',fun j y v' e1 e2 e3=>?_⟩,fun y c e=>?_,I.free,I.freeC,fun p hp=>?_,tracked ⟨oL,hoL,I.free⟩ hs,by simpa using I.len⟩ ⟨_,hs,.inl rfl⟩
   . exact (hs.2 b (Nat.ne_of_lt (Nat.lt_of_lt_of_le (Heap.lt_size e) I.ok.above))).trans (I.base.keep b o e n hb hx)
   . obtain ⟨sl,e1⟩:=I.base.slot b o e n hb hx
     exact ⟨sl,(hs.2 b (Nat.ne_of_lt (Nat.lt_of_lt_of_le (Heap.lt_size e) I.ok.above))).trans e1⟩
   . obtain ⟨o',e1⟩:=I.base.there b o e hx
     exact ⟨o',(hs.2 b (Nat.ne_of_lt (Nat.lt_of_lt_of_le (Heap.lt_size e) I.ok.above))).trans e1⟩
   . by_cases hj:j=i
     . subst hj
       rw [hi] at e1; cases e1
       rw [List.getElem?_set_self hiσ] at e2
       cases e2
       exact ⟨u,r,.inl ⟨hk,by simp⟩⟩
     . rw [List.getElem?_set_ne (Ne.symm hj)] at e2
       obtain ⟨u',r',q⟩:=hl j y v' e1 e2 e3
       refine ⟨u',r',?_⟩
       rcases q with ⟨k,e⟩ | ⟨k,c,e,z⟩
       . refine .inl ⟨k,?_⟩
         have:y ≠ x:=fun e=>hj (nodup_ix hN e1 (e ▸ hi))
         simp [this,e]
       . exact .inr ⟨k,c,e,z.sameBut hs (cne y c e)⟩
   . obtain ⟨w',z⟩:=I.cell y c e
     exact ⟨w',z.sameBut hs (cne y c e)⟩
   . obtain ⟨e,n,ne,nf,d⟩:=I.pin p hp
     exact ⟨(hs.2 p.1 ne).trans e,n,ne,nf,d⟩
 . have hfn:X.fn x=true:=by
    rcases hf with z | z
    . exact z
    . rw [z] at hk; cases hk
   obtain ⟨c,hc⟩:=I.ok.has x (.inl hk)
   obtain ⟨w',z⟩:=I.cell x c hc
   refine wpAny_storeName_cell I.ok.kind hk hc z (fun h' hc' hs=>?_)
   obtain ⟨oc,hoc,hocd⟩:=id z
   refine h { s with heap:=h' } ⟨I.ok,I.os,I.bare,⟨fun b o e n hb hx=>?_,fun b o e n hb hx=>?_,I.base.free,fun b o e hx=>?_,I.base.tups,I.base.frzs,I.base.tbls⟩,⟨m,hn.sameBut hs (Ne.symm (cne x c hc)),fun j y v' e1 e2 e3=>?_⟩,fun y c' e=>?_,I.free,I.freeC,fun p hp=>?_,tracked ⟨oc,hoc,I.freeC x c hc⟩ hs,by simpa using I.len⟩ ⟨c,hs,.inr hc⟩
   . exact (hs.2 b (Nat.ne_of_lt (Nat.lt_of_lt_of_le (Heap.lt_size e) (I.ok.cab x c hfn hc)))).trans (I.base.keep b o e n hb hx)
   . obtain ⟨sl,e1⟩:=I.base.slot b o e n hb hx
     exact ⟨sl,(hs.2 b (Nat.ne_of_lt (Nat.lt_of_lt_of_le (Heap.lt_size e) (I.ok.cab x c hfn hc)))).trans e1⟩
   . obtain ⟨o',e1⟩:=I.base.there b o e hx
     exact ⟨o',(hs.2 b (Nat.ne_of_lt (Nat.lt_of_lt_of_le (Heap.lt_size e) (I.ok.cab x c hfn hc)))).trans e1⟩
   . by_cases hj:j=i
     . subst hj
       rw [hi] at e1; cases e1
       rw [List.getElem?_set_self hiσ] at e2
       cases e2
       exact ⟨u,r,.inr ⟨.inl hk,c,hc,hc'⟩⟩
     . rw [List.getElem?_set_ne (Ne.symm hj)] at e2
       obtain ⟨u',r',q⟩:=hl j y v' e1 e2 e3
       refine ⟨u',r',?_⟩
       rcases q with q | ⟨k,c',e,z'⟩
       . exact .inl q
       . refine .inr ⟨k,c',e,z'.sameBut hs ?_⟩
         rintro rfl
         exact hj (nodup_ix hN e1 (I.ok.inj _ _ _ e hc ▸ hi))
   . by_cases hcc:c'=c
     . subst hcc; exact ⟨_,hc'⟩
     . obtain ⟨w2,z2⟩:=I.cell y c' e
       exact ⟨w2,z2.sameBut hs hcc⟩
   . obtain ⟨e,n,ne,nf,d⟩:=I.pin p hp
     refine ⟨(hs.2 p.1 ?_).trans e,n,ne,nf,d⟩
     intro q
     rw [q,hoc] at e
     have q':oc=p.2:=Option.some.inj e
     exact d w' (by rw [<- q']; exact hocd)
theorem store_ok {M:Model} {A:Around} {E:Value->Shared->Prop} {i:Nat} {x:Str} {v:V} {u:Value} {Q:Unit->Shared->Prop} (I:Inv X pins σ H s) (hN:X.N.Nodup) (hi:X.N[i]? = some x) (hx:Loc X.env.scope x) (r:RelV v u)
 (h:∀ s',Inv X pins (σ.set i (some v)) H s'->Q () s') (hf:X.fn x=true \/ X.env.scope.names.lookup x=some .local:=by first | exact .inl rfl | exact .inr rfl | assumption):wpAny M A (storeName X.env x u) Q E s:=
 store_ok2 I hN hi hx r (fun s' I' _=>h s' I') hf
theorem Inv.call' {s':Shared} {ch:List Addr} (I:Inv X pins σ H s) (ho:s'.os=s.os) (u:Un (frs X.stack) ch H H' s.heap s'.heap) (hok:HOk X.prog X.w H' s'.heap) (hg:AllBare s'.gens)
 (hch:∀ b ∈ ch,(b ∈ X.ex \/ X.s_0.heap.objs.size<=b)/\b ≠ X.env.locals/\(∀ x c,X.env.cells.lookup x=some c->c ≠ b)/\∀ p ∈ X.pn ++ pins,p.1 ≠ b):Inv X pins σ H' s':=by
 obtain ⟨h',g',d',t',o'⟩:=s'
 have e:o'=s.os:=ho
 subst e
 exact I.call (g':=g') (t':=t') (d':=d') u hok hg hch
end
abbrev XK:=Value->Option Addr->Hp->Prop
abbrev St:=List (Option V)
abbrev VK:=V->Hp->Prop
abbrev TE:=St->Hp->VK->Prop
abbrev TT:=St->Hp->(Bool->Hp->Prop)->Prop
abbrev TA:=St->Hp->(List V->Hp->Prop)->Prop
structure Ends where
 nx:St->Hp->Prop
 rt:VK
 bk:St->Hp->Prop:=fun _ _=>False
 ct:St->Hp->Prop:=fun _ _=>False
abbrev TS:=Ends->St->Hp->Prop
def EP (X:Cx) (pins:List (Addr × Obj)) (σ:St) (Q:VK) (u:Value) (s':Shared):Prop:=∃ v H',Inv X pins σ H' s'/\RelV v u/\Q v H'
def TP (X:Cx) (pins:List (Addr × Obj)) (σ:St) (Q:Bool->Hp->Prop) (b:Bool) (s':Shared):Prop:=∃ H',Inv X pins σ H' s'/\Q b H'
def AP (X:Cx) (pins:List (Addr × Obj)) (σ:St) (Q:List V->Hp->Prop) (us:List Value) (s':Shared):Prop:=∃ vs H',Inv X pins σ H' s'/\Vals vs us/\Q vs H'
def SP (X:Cx) (pins:List (Addr × Obj)) (D:Ends) (f:Flow) (s':Shared):Prop:=
 match f with
 | .next=>∃ σ' H',Inv X pins σ' H' s'/\D.nx σ' H'
 | .brk=>∃ σ' H',Inv X pins σ' H' s'/\D.bk σ' H'
 | .cont=>∃ σ' H',Inv X pins σ' H' s'/\D.ct σ' H'
 | .ret u=>∃ v σ' H',Inv X pins σ' H' s'/\RelV v u/\D.rt v H'
def PE (X:Cx) (e:Expr) (t:TE):Prop:=
 ∀ (pins:List (Addr × Obj)) (s:Shared) (σ:St) (H:Hp) (Q:VK),Inv X pins σ H s->t σ H Q->wpAny (model X.prog X.w) X.A (eval e X.env) (EP X pins σ Q) X.xe s
def PT (X:Cx) (e:Expr) (t:TT):Prop:=
 ∀ (pins:List (Addr × Obj)) (s:Shared) (σ:St) (H:Hp) (Q:Bool->Hp->Prop),Inv X pins σ H s->t σ H Q->wpAny (model X.prog X.w) X.A (isTrue e X.env (eval e X.env)) (TP X pins σ Q) X.xe s
def PW (X:Cx) (e:Expr) (t:TT):Prop:=
 ∀ (whole:Sem Value) (pins:List (Addr × Obj)) (s:Shared) (σ:St) (H:Hp) (Q:Bool->Hp->Prop),Inv X pins σ H s->t σ H Q->wpAny (model X.prog X.w) X.A (isTrue e X.env whole) (TP X pins σ Q) X.xe s
theorem PW.pt {X:Cx} {e:Expr} {t:TT} (h:PW X e t):PT X e t:=h _
def PA (X:Cx) (es:List Expr) (t:TA):Prop:=
 ∀ (pos:Pos) (pins:List (Addr × Obj)) (s:Shared) (σ:St) (H:Hp) (Q:List V->Hp->Prop),Inv X pins σ H s->t σ H Q->wpAny (model X.prog X.w) X.A (spliced (backTo pos (starEach es X.env))) (AP X pins σ Q) X.xe s
def PS (X:Cx) (st:Stmt) (t:TS):Prop:=
 ∀ (pins:List (Addr × Obj)) (s:Shared) (σ:St) (H:Hp) (D:Ends),Inv X pins σ H s->t D σ H->wpAny (model X.prog X.w) X.A (exec st X.env) (SP X pins D) X.xe s
def PSs (X:Cx) (st:List Stmt) (t:TS):Prop:=
 ∀ (pins:List (Addr × Obj)) (s:Shared) (σ:St) (H:Hp) (D:Ends),Inv X pins σ H s->t D σ H->wpAny (model X.prog X.w) X.A (execs st X.env) (SP X pins D) X.xe s
theorem thn {α:Type} {t:Sem α} {Q Q':α->Shared->Prop} {M:Model} {A:Around} {E:Value->Shared->Prop} {s:Shared} (h:wpAny M A t Q E s) (hQ:∀ a s,Q a s->Q' a s):wpAny M A t Q' E s:=wpAny_mono h hQ fun _ _ x=>x
end L2
namespace L2
open PySem PySem.Spec PyProof.Rows
section
variable {X:Cx}
def tVar (i:Nat):TE:=fun σ H Q=>∃ v,σ[i]? = some (some v)/\Q v H
def tC (v:V):TE:=fun _ H Q=>Q v H
theorem pe_var {i:Nat} {x:Str} {pos:Pos} (hN:X.N[i]? = some x) (hv:Vis X.env.scope x) (hd:(x == ("__debug__" : Str))=false:=by decide) (hcd:(x == ("__classdict__" : Str))=false:=by decide):PE X (.Name x pos) (tVar i):=by
 intro pins s σ H Q I h
 obtain ⟨v,e,h⟩:=h
 obtain ⟨m,hn,hl⟩:=I.loc
 obtain ⟨u,r,l⟩:=hl i x v hN e hv
 have fin:EP X pins σ Q u s:=⟨v,H,I,r,h⟩
 rcases l with ⟨hk,hm⟩ | ⟨hk,c,hc,hcell⟩
 . exact wpAny_Name (wpAny_loadName_local I.ok.kind hk hn hm fin) hd
 . rcases hk with hk | hk
   . exact wpAny_Name (wpAny_loadName_cell I.ok.kind hk hc hcell fin) hd
   . exact wpAny_Name (wpAny_loadName_free I.ok.kind hk hc hcell fin hcd) hd
theorem pe_int {i j pos}:PE X (.Constant (.int i) j pos) (tC (.int i)):=fun _ _ _ H _ I h=>wpAny_Constant_int ⟨.int i,H,I.tok _,⟨_,rfl⟩,h⟩
theorem pe_bl {b j pos}:PE X (.Constant (.bool b) j pos) (tC (.bl b)):=fun _ _ _ H _ I h=>Constant_bool ⟨.bl b,H,I,rfl,h⟩
theorem pe_str {x j pos}:PE X (.Constant (.str x) j pos) (tC (.str x)):=fun _ _ _ H _ I h=>Calls.Constant_str ⟨.str x,H,I.tok _,⟨_,rfl⟩,h⟩
def Gl (X:Cx) (x:Str):Prop:=X.env.kindOf x=some .globalImplicit
theorem ld_glob {E:Value->Shared->Prop} {pins:List (Addr × Obj)} {s:Shared} {σ:St} {H:Hp} {x:Str} {u:Value} {pos:Pos} {Q:Value->Shared->Prop} (I:Inv X pins σ H s) (hg:Gl X x) (hm:X.mg x=some u) (h:Q u s)
 (hd:(x == ("__debug__" : Str))=false:=by decide):wpAny (model X.prog X.w) X.A (eval (.Name x pos) X.env) Q E s:=
 Calls.Name_function_global I.ok.kind hg (Calls.loadGlobal_global (by rw [I.ok.glob]; exact I.mod.glob.keeps I.bk) hm h) hd
theorem ld_blt {E:Value->Shared->Prop} {pins:List (Addr × Obj)} {s:Shared} {σ:St} {H:Hp} {x:Str} {u:Value} {pos:Pos} {Q:Value->Shared->Prop} (I:Inv X pins σ H s) (hg:Gl X x) (hm:X.mg x=none) (hv:bootBuiltins x=some u) (h:Q u s)
 (hn:x ≠ "__name__" := by decide) (hd:(x == ("__debug__" : Str))=false:=by decide):wpAny (model X.prog X.w) X.A (eval (.Name x pos) X.env) Q E s:=by
 obtain ⟨mb,h1,h2⟩:=I.mod.blt
 exact Calls.Name_function_global I.ok.kind hg (Calls.loadGlobal_builtin (by rw [I.ok.glob]; exact I.mod.glob.keeps I.bk) hm (by rw [I.ok.blt]; exact h1.keeps I.bk) ((h2 x hn).trans hv) h) hd
theorem pe_glob {x:Str} {v:V} {u:Value} {pos:Pos} (hg:Gl X x) (hm:X.mg x=some u) (r:RelV v u) (hd:(x == ("__debug__" : Str))=false:=by decide):PE X (.Name x pos) (tC v):=
 fun _ _ _ H _ I h=>ld_glob I hg hm ⟨v,H,I,r,h⟩ hd
variable {a b:Expr} {ta tb:TE} {pos:Pos}
def PC (X:Cx) (op:CmpOp) (a b:Expr) (t:TE):Prop:=
 ∀ (pins:List (Addr × Obj)) (s:Shared) (σ:St) (H:Hp) (Q:VK),Inv X pins σ H s->t σ H Q ->
  wpAny (model X.prog X.w) X.A (eval a X.env) (fun v s₁=>wpAny (model X.prog X.w) X.A (eval b X.env) (fun u s₂=>wpAny (model X.prog X.w) X.A (compareOp op v u) (EP X pins σ Q) X.xe s₂) X.xe s₁) X.xe s
def tB (t:TE):TT:=fun σ H Q=>t σ H fun x H1=>∃ c,x = .bl c/\Q c H1
theorem pt_cmp {op:CmpOp} {t:TE} (h:PC X op a b t) (h1:behindInMarks op b=false:=by first | exact nobehind _ (by decide) (by decide) | rfl):PT X (.Compare a [op] [b] pos) (tB t):=by
 intro pins s σ H Q I hw
 refine wpAny_isTrue_Compare1 (thn (h pins s σ H _ I hw) fun v s1 h1=>thn h1 fun u s2 h2=>thn h2 fun c s3 ⟨x,H1,I1,r1,q1⟩=>?_) h1
 obtain ⟨d,rfl,q⟩:=q1
 cases r1
 exact wpAny_truthy_bool ⟨H1,I1,q⟩
variable {tA tB':TT} {rest:List Expr}
def tAnd (t u:TT):TT:=fun σ H Q=>t σ H fun c H1=>if c=true then u σ H1 Q else Q false H1
def tOr (t u:TT):TT:=fun σ H Q=>t σ H fun c H1=>if c=true then Q true H1 else u σ H1 Q
def tNot (t:TT):TT:=fun σ H Q=>t σ H fun c H1=>Q (!c) H1
theorem pw_and1 (ha:PT X a tA):PW X (.BoolOp .And [a] pos) tA:=by
 intro wh pins s σ H Q I h
 refine isTrue_and (thn (ha pins s σ H Q I h) fun c s1 e=>?_)
 cases c with
 | true=>exact isTrue_and_nil e
 | false=>exact e
theorem pw_or1 (ha:PT X a tA):PW X (.BoolOp .Or [a] pos) tA:=by
 intro wh pins s σ H Q I h
 refine isTrue_or (thn (ha pins s σ H Q I h) fun c s1 e=>?_)
 cases c with
 | false=>exact isTrue_or_nil e
 | true=>exact e
theorem pw_and (ha:PT X a tA) (hb:PW X (.BoolOp .And (b :: rest) pos) tB'):PW X (.BoolOp .And (a :: b :: rest) pos) (tAnd tA tB'):=by
 intro wh pins s σ H Q I h
 refine isTrue_and (thn (ha pins s σ H _ I h) fun c s1 ⟨H1,I1,q1⟩=>?_)
 cases c with
 | true=>exact hb wh pins s1 σ H1 Q I1 q1
 | false=>exact ⟨H1,I1,q1⟩
theorem pw_or (ha:PT X a tA) (hb:PW X (.BoolOp .Or (b :: rest) pos) tB'):PW X (.BoolOp .Or (a :: b :: rest) pos) (tOr tA tB'):=by
 intro wh pins s σ H Q I h
 refine isTrue_or (thn (ha pins s σ H _ I h) fun c s1 ⟨H1,I1,q1⟩=>?_)
 cases c with
 | true=>exact ⟨H1,I1,q1⟩
 | false=>exact hb wh pins s1 σ H1 Q I1 q1
theorem pt_not (ha:PT X a tA):PT X (.UnaryOp .Not a pos) (tNot tA):=by
 intro pins s σ H Q I h
 exact isTrue_not (ha pins s σ H (fun c H1=>Q (!c) H1) I h)
def tIf (t:TT) (ta tb:TE):TE:=fun σ H Q=>t σ H fun c H1=>if c=true then ta σ H1 Q else tb σ H1 Q
theorem pe_ifExp {c:Expr} (hc:PT X c tA) (ha:PE X a ta) (hb:PE X b tb):PE X (.IfExp c a b pos) (tIf tA ta tb):=by
 intro pins s σ H Q I h
 refine wpAny_IfExp (thn (hc pins s σ H _ I h) fun d s1 ⟨H1,I1,q1⟩=>?_)
 cases d with
 | true=>exact ha pins s1 σ H1 Q I1 q1
 | false=>exact hb pins s1 σ H1 Q I1 q1
end
end L2
namespace L2
open PySem PySem.Spec PyProof.Rows
def SqL (K:PySem.W.Frag) (H:Hp) (a:Addr) (xs:List V):Prop:=
 Rd H a (.lst xs) \/
  ∃ (o:Obj) (its:Array Value) (n:Nat),K.lookup a=some o/\o.cls = .type "list" /\ o.dict=none/\o.data = .seq its n/\its.size<=sizeLine/\Vals xs its.toList
def SqT (K:PySem.W.Frag) (H:Hp) (a:Addr) (xs:List V):Prop:=
 Rd H a (.tup xs) \/
  ∃ (o:Obj) (its:Array Value) (n:Nat),K.lookup a=some o/\o.cls = .type "tuple" /\ o.data = .seq its n/\its.size<=sizeLine/\Vals xs its.toList
def absV:Value->Option V
 | .none=>some .non
 | .bool b=>some (.bl b)
 | .int i _=>some (.int i)
 | .str x _=>some (.str x)
 | .bytes b _=>some (.byt b)
 | .float b _=>some (.flt b)
 | .ref a=>some (.ref a)
 | .type n=>some (.ty n)
 | _=>none
theorem RelV.abs {x:V} {u:Value} (r:RelV x u):absV u=some x:=by
 cases x with
 | non=>cases r; rfl
 | bl _=>cases r; rfl
 | int _=>obtain ⟨t,rfl⟩:=r; rfl
 | str _=>obtain ⟨t,rfl⟩:=r; rfl
 | byt _=>obtain ⟨t,rfl⟩:=r; rfl
 | flt _=>obtain ⟨t,rfl⟩:=r; rfl
 | ref _=>cases r; rfl
 | ty _=>cases r; rfl
theorem RelV.inj {x y:V} {u:Value} (r:RelV x u) (q:RelV y u):x=y:=Option.some.inj (r.abs.symm.trans q.abs)
theorem Vals.inj:∀ {xs ys:List V} {us:List Value},Vals xs us->Vals ys us->xs=ys
 | _,_,_,.nil,.nil=>rfl
 | _,_,_,.cons r t,.cons r' t'=>by rw [r.inj r',Vals.inj t t']
section
variable {X:Cx} {pins:List (Addr × Obj)} {σ:St} {H:Hp} {s:Shared} {a:Addr} {xs ys:List V}
theorem SqL.of {K:PySem.W.Frag} (h:H a=some (.lst xs)):SqL K H a xs:=.inl (.inl h)
theorem SqT.of {K:PySem.W.Frag} (h:H a=some (.tup xs)):SqT K H a xs:=.inl (.inl h)
theorem Inv.list (I:Inv X pins σ H s) (h:SqL X.K H a xs):∃ its:List Value,Vals xs its/\PlainL s.heap a its.toArray/\xs.length<=sizeLine:=by
 rcases h with h | ⟨o,its,n,hk,hc,hd,hs,hz,r⟩
 . obtain ⟨z,its,n,r,e⟩:=h.ok I.hok
   exact ⟨its,r,⟨_,n,e,rfl,rfl,rfl⟩,z⟩
 . refine ⟨its.toList,r,⟨o,n,I.kIn a o hk,hc,hd,by simpa using hs⟩,?_⟩
   have e:=r.length
   simp only [Array.length_toList] at e
   omega
theorem Inv.tuple (I:Inv X pins σ H s) (h:SqT X.K H a xs):∃ its:List Value,Vals xs its/\IsTup s.heap a its.toArray/\xs.length<=sizeLine:=by
 rcases h with h | ⟨o,its,n,hk,hc,hs,hz,r⟩
 . obtain ⟨z,its,r,p⟩:=h.ok I.hok
   exact ⟨its,r,p,z⟩
 . refine ⟨its.toList,r,⟨o,I.kIn a o hk,hc,n,by simpa using hs⟩,?_⟩
   have e:=r.length
   simp only [Array.length_toList] at e
   omega
theorem Inv.list_inj (I:Inv X pins σ H s) (h:SqL X.K H a xs) (h':SqL X.K H a ys):xs=ys:=by
 obtain ⟨its,r,⟨o,n,e,_,_,d⟩,_⟩:=I.list h
 obtain ⟨its',r',⟨o',n',e',_,_,d'⟩,_⟩:=I.list h'
 rw [e] at e'; cases e'
 rw [d] at d'
 injection d' with d1 _
 have:its=its':=by simpa using congrArg Array.toList d1
 subst this
 exact r.inj r'
theorem Inv.tuple_inj (I:Inv X pins σ H s) (h:SqT X.K H a xs) (h':SqT X.K H a ys):xs=ys:=by
 obtain ⟨its,r,⟨o,e,_,n,d⟩,_⟩:=I.tuple h
 obtain ⟨its',r',⟨o',e',_,n',d'⟩,_⟩:=I.tuple h'
 rw [e] at e'; cases e'
 rw [d] at d'
 injection d' with d1 _
 have:its=its':=by simpa using congrArg Array.toList d1
 subst this
 exact r.inj r'
end
abbrev Cx.wish (X:Cx) (E:Value->Shared->Prop):Cx:={ X with xe:=E }
abbrev Cx.nox (X:Cx):Cx:=X.wish fun _ _=>False
theorem Cx.Ok.wish {X:Cx} (ok:X.Ok) (E:Value->Shared->Prop):(X.wish E).Ok:=
 ⟨ok.mod,ok.kind,ok.glob,ok.blt,ok.above,ok.inj,ok.has,ok.cab,ok.hd,ok.frames,ok.stk,ok.exf,ok.bs,ok.bsz,ok.noex,ok.exfs,ok.funs,ok.frf⟩
theorem Cx.Ok.unwish {X:Cx} {E:Value->Shared->Prop} (ok:(X.wish E).Ok):X.Ok:=
 ⟨ok.mod,ok.kind,ok.glob,ok.blt,ok.above,ok.inj,ok.has,ok.cab,ok.hd,ok.frames,ok.stk,ok.exf,ok.bs,ok.bsz,ok.noex,ok.exfs,ok.funs,ok.frf⟩
section
variable {X:Cx} {pins:List (Addr × Obj)} {σ:St} {H:Hp} {s:Shared} {E:Value->Shared->Prop}
theorem Inv.wish (I:Inv X pins σ H s) (E:Value->Shared->Prop):Inv (X.wish E) pins σ H s:=⟨I.ok.wish E,I.os,I.bare,I.base,I.loc,I.cell,I.free,I.freeC,I.pin,I.hok,I.len⟩
theorem Inv.unwish (I:Inv (X.wish E) pins σ H s):Inv X pins σ H s:=⟨I.ok.unwish,I.os,I.bare,I.base,I.loc,I.cell,I.free,I.freeC,I.pin,I.hok,I.len⟩
theorem SP.unwish {D:Ends} {f:Flow} {s':Shared} (h:SP (X.wish E) pins D f s'):SP X pins D f s':=by
 cases f with
 | next=>obtain ⟨σ',H',I,q⟩:=h; exact ⟨σ',H',I.unwish,q⟩
 | brk=>obtain ⟨σ',H',I,q⟩:=h; exact ⟨σ',H',I.unwish,q⟩
 | cont=>obtain ⟨σ',H',I,q⟩:=h; exact ⟨σ',H',I.unwish,q⟩
 | ret u=>obtain ⟨v,σ',H',I,r,q⟩:=h; exact ⟨v,σ',H',I.unwish,r,q⟩
theorem PSs.nox {st:List Stmt} {t:TS} (h:PSs X.nox st t):PSs X st t:=fun pins s σ H D I hw=>
 wpAny_mono (h pins s σ H D (I.wish _) hw) (fun _ _ q=>q.unwish) fun _ _ z=>False.elim z
end
section
variable {X:Cx} {st:Stmt} {rest:List Stmt} {t u:TS} {e:Expr} {te:TE} {pos:Pos}
def tNext:TS:=fun D σ H=>D.nx σ H
def tSeq (t u:TS):TS:=fun D σ H=>t { D with nx:=u D } σ H
theorem pss_nil:PSs X [] tNext:=fun _ _ σ H _ I h=>wpAny_execs_nil ⟨σ,H,I,h⟩
theorem pss_cons (h1:PS X st t) (h2:PSs X rest u):PSs X (st :: rest) (tSeq t u):=by
 intro pins s σ H D I h
 refine wpAny_execs_cons (thn (h1 pins s σ H { D with nx:=u D } I h) fun f s1 q=>?_)
 cases f with
 | next=>
  obtain ⟨σ',H',I',q⟩:=q
  exact h2 pins s1 σ' H' D I' q
 | ret v=>exact q
 | brk=>exact q
 | cont=>exact q
theorem pss_one (h1:PS X st t):PSs X [st] t:=by
 intro pins s σ H D I h
 refine wpAny_execs_cons (thn (h1 pins s σ H D I h) fun f s1 q=>?_)
 cases f with
 | next=>exact wpAny_execs_nil q
 | ret v=>exact q
 | brk=>exact q
 | cont=>exact q
theorem Inv.quiet {pins:List (Addr × Obj)} {σ:St} {H:Hp} {s:Shared} (I:Inv X pins σ H s):interactive X.env=false:=by simp [interactive,I.ok.kind]
def tDrop (te:TE):TS:=fun D σ H=>te σ H fun _ H1=>D.nx σ H1
theorem ps_expr (he:PE X e te) (hs:swapsWith e none pos.line X.env=pure false:=by rfl):PS X (.Expr e pos) (tDrop te):=by
 intro pins s σ H D I h
 exact wpAny_Expr_any (thn (he pins s σ H _ I h) fun v s1 ⟨x,H1,I1,r1,q1⟩=>⟨σ,H1,I1,q1⟩) I.quiet hs
def tRet (te:TE):TS:=fun D σ H=>te σ H D.rt
theorem ps_ret (he:PE X e te):PS X (.Return (some e) pos) (tRet te):=by
 intro pins s σ H D I h
 exact wpAny_Return_some (thn (he pins s σ H _ I h) fun v s1 ⟨x,H1,I1,r1,q1⟩=>⟨x,σ,H1,I1,r1,q1⟩)
def tIfS (c:TT) (t u:TS):TS:=fun D σ H=>c σ H fun b H1=>if b=true then t D σ H1 else u D σ H1
theorem ps_if {c:Expr} {a b:List Stmt} {tc:TT} (hc:PT X c tc) (ha:PSs X a t) (hb:PSs X b u):PS X (.If c a b pos) (tIfS tc t u):=by
 intro pins s σ H D I h
 refine wpAny_If (thn (hc pins s σ H _ I h) fun d s1 ⟨H1,I1,q1⟩=>?_)
 cases d with
 | true=>exact ha pins s1 σ H1 D I1 q1
 | false=>exact hb pins s1 σ H1 D I1 q1
end
abbrev TG:=V->St->Hp->(St->Hp->Prop)->Prop
def PG (X:Cx) (target:Expr) (t:TG):Prop:=
 ∀ (pins:List (Addr × Obj)) (s:Shared) (σ:St) (H:Hp) (v:V) (u:Value) (Q:St->Hp->Prop),Inv X pins σ H s->RelV v u->t v σ H Q ->
  wpAny (model X.prog X.w) X.A (assign target X.env u) (fun _ s'=>∃ σ' H',Inv X pins σ' H' s'/\Q σ' H') X.xe s
abbrev TIp:=V->V->Hp->VK->Prop
def PIp (X:Cx) (op:Operator) (t:TIp):Prop:=
 ∀ (pins:List (Addr × Obj)) (s:Shared) (σ:St) (H:Hp) (x y:V) (v u:Value) (Q:VK),Inv X pins σ H s->RelV x v->RelV y u->t x y H Q ->
  wpAny (model X.prog X.w) X.A (inplaceOp op v u) (EP X pins σ Q) X.xe s
section
variable {X:Cx} {pos:Pos}
def gName (i:Nat):TG:=fun v σ H Q=>Q (σ.set i (some v)) H
theorem pg_name {i:Nat} {x:Str} (hN:X.N.Nodup) (hi:X.N[i]? = some x) (hx:Loc X.env.scope x) (hf:X.fn x=true \/ X.env.scope.names.lookup x=some .local:=by first | exact .inl rfl | exact .inr rfl | assumption):PG X (.Name x pos) (gName i):=by
 intro pins s σ H v u Q I r h
 exact wpAny_assign_Name (store_ok I hN hi hx r (fun s' I'=>⟨_,H,I',h⟩) hf)
def tAsg (te:TE) (g:TG):TS:=fun D σ H=>te σ H fun x H1=>g x σ H1 D.nx
theorem ps_set {i:Nat} {x:Str} {e:Expr} {te:TE} {pos':Pos} (hN:X.N.Nodup) (hi:X.N[i]? = some x) (hx:Loc X.env.scope x) (he:PE X e te) (hs:swapsWith e (some (.Name x pos')) pos.line X.env=pure false:=by rfl) (hf:X.fn x=true \/ X.env.scope.names.lookup x=some .local:=by first | exact .inl rfl | exact .inr rfl | assumption) :
 PS X (.Assign [.Name x pos'] e pos) (tAsg te (gName i)):=by
 intro pins s σ H D I h
 refine wpAny_Assign_Name (thn (he pins s σ H _ I h) fun v s1 ⟨y,H1,I1,r1,q1⟩=>?_) hs
 exact store_ok I1 hN hi hx r1 (fun s2 I2=>⟨_,H1,I2,q1⟩) hf
def tAug (i:Nat) (te:TE) (ti:TIp):TS:=fun D σ H=>∃ x,σ[i]? = some (some x)/\te σ H fun y H1=>ti x y H1 fun z H2=>D.nx (σ.set i (some z)) H2
theorem ps_aug {i:Nat} {x:Str} {e:Expr} {te:TE} {op:Operator} {ti:TIp} {pos':Pos} (hN:X.N.Nodup) (hi:X.N[i]? = some x) (hx:Loc X.env.scope x) (he:PE X e te) (ho:PIp X op ti) (hf:X.fn x=true \/ X.env.scope.names.lookup x=some .local:=by first | exact .inl rfl | exact .inr rfl | assumption) :
 PS X (.AugAssign (.Name x pos') op e pos) (tAug i te ti):=by
 intro pins s σ H D I h
 obtain ⟨v,e1,h⟩:=h
 obtain ⟨m,hn,hl⟩:=I.loc
 have vis:Vis X.env.scope x:=by rcases hx with k | k; exact .inl k; exact .inr (.inl k)
 obtain ⟨u,r,l⟩:=hl i x v hi e1 vis
 refine wpAny_AugAssign_Name ?_
 have go:wpAny (model X.prog X.w) X.A (eval e X.env) (fun w s₂=>wpAny (model X.prog X.w) X.A (inplaceOp op u w) (fun r s₃=>wpAny (model X.prog X.w) X.A (storeName X.env x r) (fun _=>SP X pins D .next) X.xe s₃) X.xe s₂) X.xe s:=by
  refine thn (he pins s σ H _ I h) fun w s1 ⟨y,H1,I1,r1,q1⟩=>?_
  refine thn (ho pins s1 σ H1 v y u w _ I1 r r1 q1) fun z s2 ⟨zv,H2,I2,r2,q2⟩=>?_
  exact store_ok I2 hN hi hx r2 (fun s3 I3=>⟨_,H2,I3,q2⟩) hf
 rcases l with ⟨hk,hm⟩ | ⟨hk,c,hc,hcell⟩
 . exact wpAny_loadName_local I.ok.kind hk hn hm go
 . rcases hk with hk | hk
   . exact wpAny_loadName_cell I.ok.kind hk hc hcell go
   . rcases hx with k | k
     . have:X.env.scope.names.lookup x=some .free:=hk
       rw [k] at this; cases this
     . have:X.env.scope.names.lookup x=some .free:=hk
       rw [k] at this; cases this
end
section
variable {X:Cx} {pos:Pos}
def tWhile (c:TT) (tb:TS):TS:=fun D σ H=>∃ W:Nat->St->Hp->Prop,(∃ m,W m σ H)/\∀ m σ H,W m σ H ->
 c σ H fun b H1=>if b=true then ∃ N:St->Hp->Prop,(∀ σ' H',N σ' H'->∃ m',m' < m/\W m' σ' H')/\tb { D with nx:=N,ct:=N,bk:=D.nx } σ H1 else D.nx σ H1
theorem ps_while {c:Expr} {body:List Stmt} {tc:TT} {tb:TS} (hp:PassesOwn (model X.prog X.w) X.A X.env X.xe) (hc:PT X c tc) (hb:PSs X body tb):PS X (.While c body [] pos) (tWhile tc tb):=by
 intro pins s σ H D I h
 obtain ⟨W,⟨m0,w0⟩,turn⟩:=h
 refine wpAny_While (codeAny_whileLoop (fun n s'=>∃ σ' H',Inv X pins σ' H' s'/\W n σ' H') ?_ m0 ⟨σ,H,I,w0⟩)
 rintro n s1 ⟨σ1,H1,I1,w1⟩
 refine wpAny_passesOwn hp (thn (hc pins s1 σ1 H1 _ I1 (turn n σ1 H1 w1)) fun b s2 ⟨H2,I2,q2⟩=>?_)
 cases b with
 | true=>
  obtain ⟨N,hN,q2⟩:=q2
  rw [if_pos rfl]
  refine wpAny_passesOwn hp (thn (hb pins s2 σ1 H2 _ I2 q2) fun f s3 q3=>?_)
  cases f with
  | next=>
   obtain ⟨σ3,H3,I3,n3⟩:=q3
   obtain ⟨m',hm,w3⟩:=hN σ3 H3 n3
   exact ⟨m',hm,σ3,H3,I3,w3⟩
  | cont=>
   obtain ⟨σ3,H3,I3,n3⟩:=q3
   obtain ⟨m',hm,w3⟩:=hN σ3 H3 n3
   exact ⟨m',hm,σ3,H3,I3,w3⟩
  | brk=>exact q3
  | ret v=>exact q3
 | false=>
  rw [if_neg Bool.false_ne_true]
  exact wpAny_execs_nil ⟨σ1,H2,I2,q2⟩
end
structure It where
 go:Nat->Hp->Prop
 yld:Nat->Hp->V->Hp->Prop
 stop:Nat->Hp->Prop
def FpOk (X:Cx) (pins:List (Addr × Obj)) (H:Hp) (b:Addr):Prop:=
 H b=none/\b ≠ X.env.locals/\b ∉ X.fs/\(b ∈ X.ex \/ X.s_0.heap.objs.size<=b)/\(∀ x c,X.env.cells.lookup x=some c->c ≠ b)/\∀ p ∈ X.pn ++ pins,p.1 ≠ b
theorem Inv.fpOk {X:Cx} {pins:List (Addr × Obj)} {σ:St} {H H':Hp} {s:Shared} {b:Addr} (I:Inv X pins σ H s) (hb:s.heap.objs.size<=b) (hn:H' b=none):FpOk X pins H' b:=by
 refine ⟨hn,Nat.ne_of_gt (Nat.lt_of_lt_of_le I.lt hb),I.nofs hb,.inr (Nat.le_trans I.sz hb),fun x c e z=>?_,fun p hp z=>?_⟩
 . obtain ⟨v,q⟩:=I.cell x c e
   exact absurd (Nat.lt_of_lt_of_le q.lt (by rw [z]; exact hb)) (Nat.lt_irrefl _)
 . exact absurd (Nat.lt_of_lt_of_le (Heap.lt_size (I.pin p hp).1) (by rw [z]; exact hb)) (Nat.lt_irrefl _)
structure Turn (P:Program) (w:World) (K:PySem.W.Frag) (tg:Expr) (J:It) (fp:List Addr) (it:Addr) (tn:Nat->Heap->Prop):Prop where
 mem:it ∈ fp
 obj:∀ i h,tn i h->∀ b ∈ fp,∃ o,h.get? b=some o/\∀ v,o.data ≠ .cell v
 keep:∀ i h h',tn i h->(∀ b ∈ fp,∀ o,h.get? b=some o->h'.get? b=some o)->tn i h'
 item:∀ (X:Cx),X.prog=P->X.w=w->X.K=K->X.calm=true->∀ (i:Nat) (pins:List (Addr × Obj)) (s:Shared) (σ:St) (H:Hp) (E:Value->Shared->Prop),Inv X pins σ H s->(∀ b ∈ fp,FpOk X pins H b)->tn i s.heap->J.go i H ->
  wpAny (model P w) X.A (pyNext (.ref it)) (fun r s1=>∃ u,r=some u /\
   wpAny (model P w) X.A (letOwnedTupleGo tg (.ref it) u) (fun _ s2=>∃ x H',Inv X pins σ H' s2/\RelV x u/\J.yld i H x H'/\tn (i + 1) s2.heap/\∀ b ∈ fp,H' b=none) E s1) E s
 done:∀ (X:Cx),X.prog=P->X.w=w->X.K=K->X.calm=true->∀ (i:Nat) (pins:List (Addr × Obj)) (s:Shared) (σ:St) (H:Hp) (E:Value->Shared->Prop),Inv X pins σ H s->(∀ b ∈ fp,FpOk X pins H b)->tn i s.heap->J.stop i H ->
  wpAny (model P w) X.A (pyNext (.ref it)) (fun r s1=>r=none/\Inv X pins σ H s1) E s
 self:∀ (A:Around) (i:Nat) (s:Shared) (Q:Value->Shared->Prop) (E:Value->Shared->Prop),tn i s.heap->Q (.ref it) s->wpAny (model P w) A (pyIter (.ref it)) Q E s
abbrev TI:=St->Hp->(It->Hp->Prop)->Prop
def PIE (X:Cx) (pins:List (Addr × Obj)) (σ:St) (tg:Expr) (R:It->Hp->Prop) (itv:Value) (s2:Shared):Prop:=
 ∃ (it:Addr) (fp:List Addr) (tn:Nat->Heap->Prop) (J:It) (H':Hp),itv = .ref it/\Inv X pins σ H' s2/\Turn X.prog X.w X.K tg J fp it tn/\tn 0 s2.heap/\(∀ b ∈ fp,FpOk X pins H' b)/\R J H'
def PI (X:Cx) (tg iter:Expr) (wi:TI):Prop:=
 ∀ (pins:List (Addr × Obj)) (s:Shared) (σ:St) (H:Hp) (R:It->Hp->Prop),Inv X pins σ H s->wi σ H R ->
  wpAny (model X.prog X.w) X.A (eval iter X.env) (fun v s1=>wpAny (model X.prog X.w) X.A (pyIter v) (PIE X pins σ tg R) X.xe s1) X.xe s
theorem go_of {M:Model} {A:Around} {E:Value->Shared->Prop} {s:Shared} {tg:Expr} {it:Addr} {u:Value} {o:Obj} {n:String} {vs:Array Value} {Q:Unit->Shared->Prop} (ho:s.heap.get? it=some o) (hc:o.cls = .type n) (hd:o.data = .fields vs)
 (hn:["enumerate","zip","dict_itemiterator","dict_reverseitemiterator","odict_iterator","itertools.zip_longest","itertools.pairwise"].contains n=false) (hQ:Q () s):wpAny M A (letOwnedTupleGo tg (.ref it) u) Q E s:=by
 unfold letOwnedTupleGo
 cases tg <;> first
  | exact wpAny_pure hQ
  | (cases u <;> first
      | exact wpAny_pure hQ
      | (refine wpAny_bind (wpAny_load ho ?_)
         rw [hc,hd]
         show wpAny M A (if (["enumerate","zip","dict_itemiterator","dict_reverseitemiterator","odict_iterator","itertools.zip_longest","itertools.pairwise"].contains n && vs[0]? == some (rawInt _))=true then _ else _) Q E s
         rw [if_neg (by intro h; rw [hn,Bool.false_and] at h; cases h)]
         exact wpAny_pure hQ))
def Itt (K:PySem.W.Frag) (a:Addr):It:=
 ⟨fun i H=>∃ xs x,SqT K H a xs/\xs[i]? = some x,fun i H x H'=>H'=H/\∀ xs,SqT K H a xs->xs[i]? = some x,fun i H=>∃ xs,SqT K H a xs/\xs.length<=i⟩
theorem turn_tuple {P:Program} {w:World} {K:PySem.W.Frag} {tg:Expr} (a it:Addr):Turn P w K tg (Itt K a) [it] it (fun i h=>h.IsTupleIter it a i) where
 mem:=by simp
 obj:=fun i h st b hb=>by
  have e:b=it:=by simpa using hb
  subst e
  obtain ⟨o,e,c,d⟩:=st
  exact ⟨o,e,fun v z=>by rw [d] at z; cases z⟩
 keep:=fun i h h' st k=>st.at fun o e=>k it (by simp) o e
 item:=by
  intro X hP hw hK hc i pins s σ H E I hf st hg
  subst hP hw hK
  obtain ⟨xs,x,hq,hx⟩:=hg
  obtain ⟨its,rv,p,hz⟩:=I.tuple hq
  obtain ⟨u,hu,ru⟩:=rv.get hx
  obtain ⟨f0,f1,f2,f3,f4,f5⟩:=hf it (by simp)
  refine wpAny_pyNext_tuple_item st (show s.heap.IsTuple a its.toArray from p) (x:=u) (by simpa using hu) fun h' st' sb=>?_
  have I1:Inv X pins σ H { s with heap:=h' }:=I.turned (t':=s.toks) (fun b o hb e=>(sb.2 b hb).trans e) f0 f1 f3 f4 f5
  obtain ⟨o,e,c,d⟩:=id st'
  exact ⟨u,rfl,go_of (s:={ s with heap:=h' }) e c d (by decide) ⟨x,H,I1,ru,⟨rfl,fun ys hy=>by rw [I.tuple_inj hy hq]; exact hx⟩,st',fun b hb=>(hf b hb).1⟩⟩
 done:=by
  intro X hP hw hK hc i pins s σ H E I hf st hg
  subst hP hw hK
  obtain ⟨xs,hq,hx⟩:=hg
  obtain ⟨its,rv,p,hz⟩:=I.tuple hq
  obtain ⟨f0,f1,f2,f3,f4,f5⟩:=hf it (by simp)
  have hl:=rv.length
  exact wpAny_pyNext_tuple_end (I.ok.hd hc) st (show s.heap.IsTuple a its.toArray from p) (by simp; omega) fun h' eb=>⟨rfl,I.turned (t':=s.toks) (fun b o hb e=>eb b o hb e) f0 f1 f3 f4 f5⟩
 self:=fun _ _ _ _ _ st h=>wpAny_pyIter_tupleiter st h
end L2
namespace L2
open PySem PySem.Spec PyProof.Rows
section
variable {X:Cx} {tg:Expr}
def iTup (K:PySem.W.Frag) (tl:TE):TI:=fun σ H R=>tl σ H fun x H1=>∃ a,x = .ref a/\(∃ xs,SqT K H1 a xs)/\R (Itt K a) H1
theorem pi_tup {l:Expr} {tl:TE} (hl:PE X l tl):PI X tg l (iTup X.K tl):=by
 intro pins s σ H R I h
 refine thn (hl pins s σ H _ I h) fun v s1 ⟨x,H1,I1,r1,q1⟩=>?_
 obtain ⟨a,e,⟨xs,hq⟩,q⟩:=q1
 subst e
 cases r1
 obtain ⟨its,rv,p,hz⟩:=I1.tuple hq
 refine wpAny_pyIter_tuple (show s1.heap.IsTuple a its.toArray from p) ?_
 refine ⟨s1.heap.objs.size,[s1.heap.objs.size],_,_,H1,rfl,I1.kept (t':=s1.toks) fun b o e=>Heap.get?_push_of_some _ e,turn_tuple a _,⟨_,Heap.get?_push_size _ rfl,rfl,rfl⟩,fun b hb=>?_,q⟩
 have e:b=s1.heap.objs.size:=by simpa using hb
 subst e
 exact I1.fpOk (Nat.le_refl _) (I1.hok.fresh (Nat.le_refl _))
def tFor (wi:TI) (g:TG) (tb:TS):TS:=fun D σ H=>wi σ H fun J H1=>∃ W:Nat->Nat->St->Hp->Prop,(∃ m,W 0 m σ H1)/\∀ i m σ H,W i m σ H ->
 (J.stop i H/\D.nx σ H) \/ (J.go i H/\∃ N:St->Hp->Prop,(∀ σ' H',N σ' H'->∃ m',m' < m/\W (i + 1) m' σ' H')/\∀ x H',J.yld i H x H'->g x σ H' fun σ2 H2=>tb { D with nx:=N,ct:=N,bk:=D.nx } σ2 H2)
def pinsAt (fp:List Addr) (h:Heap):List (Addr × Obj):=fp.filterMap fun b=>(h.get? b).map fun o=>(b,o)
theorem mem_pinsAt {fp:List Addr} {h:Heap} {b:Addr} {o:Obj} (hb:b ∈ fp) (e:h.get? b=some o):(b,o) ∈ pinsAt fp h:=List.mem_filterMap.mpr ⟨b,hb,by rw [e]; rfl⟩
theorem of_pinsAt {fp:List Addr} {h:Heap} {p:Addr × Obj} (hp:p ∈ pinsAt fp h):p.1 ∈ fp/\h.get? p.1=some p.2:=by
 obtain ⟨b,hb,e⟩:=List.mem_filterMap.mp hp
 cases q:h.get? b with
 | none=>rw [q] at e; cases e
 | some o=>
  rw [q] at e
  have e':(b,o)=p:=Option.some.inj e
  subst e'
  exact ⟨hb,q⟩
theorem Inv.pinned {pins:List (Addr × Obj)} {σ:St} {H:Hp} {s:Shared} {fp:List Addr} (I:Inv X pins σ H s) (hf:∀ b ∈ fp,FpOk X pins H b) (ho:∀ b ∈ fp,∃ o,s.heap.get? b=some o/\∀ v,o.data ≠ .cell v):Inv X (pins ++ pinsAt fp s.heap) σ H s:=
 I.pins_of fun p hp=>(List.mem_append.mp hp).elim (fun z=>I.pin p (List.mem_append_right _ z)) fun z=>by
  obtain ⟨hb,e⟩:=of_pinsAt z
  obtain ⟨f0,f1,f2,_⟩:=hf p.1 hb
  obtain ⟨o,e',d⟩:=ho p.1 hb
  rw [e] at e'; cases e'
  exact ⟨e,f0,f1,f2,d⟩
theorem Inv.unpinned {pins pl:List (Addr × Obj)} {σ:St} {H:Hp} {s:Shared} (I:Inv X (pins ++ pl) σ H s):Inv X pins σ H s:=I.pins_of fun p hp=>I.pin p (List.mem_append_right _ (List.mem_append_left _ hp))
theorem ps_for {iter:Expr} {body:List Stmt} {wi:TI} {g:TG} {tb:TS} {pos:Pos} (hp:PassesOwn (model X.prog X.w) X.A X.env X.xe) (hc:X.calm=true) (hi:PI X tg iter wi) (hg:PG X tg g) (hb:PSs X body tb)
 (hs:∀ x,foldedSetIterable iter X.env x=pure x:=by intro _; rfl):PS X (.For tg iter body [] pos) (tFor wi g tb):=by
 intro pins s σ H D I h
 refine wpAny_For (thn (hi pins s σ H _ I h) fun v s1 h1=>thn h1 fun itv s2 h2=>?_) hs
 obtain ⟨it,fp,tn,J,H2,e,I2,T,st2,f2,W,⟨m0,w0⟩,turn⟩:=h2
 subst e
 -- what stays true of the iterator's objects through the loop
 have stat:∀ {H':Hp},(∀ b ∈ fp,H' b=none)->∀ b ∈ fp,FpOk X pins H' b:=fun hn b hb=>⟨hn b hb,(f2 b hb).2⟩
 refine codeAny_forLoop_any (fun n s'=>∃ i σ' H',Inv X pins σ' H' s'/\tn i s'.heap/\(∀ b ∈ fp,H' b=none)/\W i n σ' H') ?_ m0 ⟨0,σ,H2,I2,st2,fun b hb=>(f2 b hb).1,w0⟩
 rintro n s3 ⟨i,σ3,H3,I3,st3,fr3,w3⟩
 rcases turn i n σ3 H3 w3 with ⟨stop,qn⟩ | ⟨go,N,hN,step⟩
 . refine wpAny_passesOwn hp (thn (T.done X rfl rfl rfl hc i pins s3 σ3 H3 X.xe I3 (stat fr3) st3 stop) fun r s4 ⟨hr,I4⟩=>?_)
   subst hr
   exact wpAny_execs_nil ⟨σ3,H3,I4,qn⟩
 . refine wpAny_passesOwn hp (thn (T.item X rfl rfl rfl hc i pins s3 σ3 H3 X.xe I3 (stat fr3) st3 go) fun r s4 ⟨u,hr,h4⟩=>?_)
   subst hr
   refine wpAny_passesOwn hp (thn h4 fun _ s5 ⟨x,H5,I5,r5,y5,st5,fr5⟩=>?_)
   have I5':=I5.pinned (stat fr5) (T.obj _ _ st5)
   refine wpAny_passesOwn hp (thn (hg _ s5 σ3 H5 x u _ I5' r5 (step x H5 y5)) fun _ s6 ⟨σ6,H6,I6,q6⟩=>?_)
   refine wpAny_passesOwn hp (thn (hb _ s6 σ6 H6 _ I6 q6) fun f s7 q7=>?_)
   have again:∀ {σ7:St} {H7:Hp},Inv X (pins ++ pinsAt fp s5.heap) σ7 H7 s7->N σ7 H7->∃ m,m < n/\∃ i σ' H',Inv X pins σ' H' s7/\tn i s7.heap/\(∀ b ∈ fp,H' b=none)/\W i m σ' H':=fun {σ7 H7} I7 n7=>by
    obtain ⟨m',hm,w7⟩:=hN σ7 H7 n7
    refine ⟨m',hm,i + 1,σ7,H7,I7.unpinned,T.keep _ _ _ st5 fun b hb o e=>(I7.pin (b,o) (List.mem_append_right _ (List.mem_append_right _ (mem_pinsAt hb e)))).1,fun b hb=>?_,w7⟩
    obtain ⟨o,e,d⟩:=T.obj _ _ st5 b hb
    exact (I7.pin (b,o) (List.mem_append_right _ (List.mem_append_right _ (mem_pinsAt hb e)))).2.1
   cases f with
   | next=>obtain ⟨σ7,H7,I7,n7⟩:=q7; exact again I7 n7
   | cont=>obtain ⟨σ7,H7,I7,n7⟩:=q7; exact again I7 n7
   | brk=>obtain ⟨σ7,H7,I7,q7⟩:=q7; exact ⟨σ7,H7,I7.unpinned,q7⟩
   | ret v=>obtain ⟨x7,σ7,H7,I7,r7,q7⟩:=q7; exact ⟨x7,σ7,H7,I7.unpinned,r7,q7⟩
end
end L2
namespace L2
open PySem PySem.Spec PyProof.Rows
abbrev R2:=V->V->Hp->VK->Prop
def OpR (X:Cx) (f:Value->Value->Sem Value) (r:R2):Prop:=
 ∀ (pins:List (Addr × Obj)) (s:Shared) (σ:St) (H:Hp) (x y:V) (v u:Value) (Q:VK),Inv X pins σ H s->RelV x v->RelV y u->r x y H Q ->
  wpAny (model X.prog X.w) X.A (f v u) (EP X pins σ Q) X.xe s
def UnR (X:Cx) (f:Value->Sem Value) (r:V->Hp->VK->Prop):Prop:=
 ∀ (pins:List (Addr × Obj)) (s:Shared) (σ:St) (H:Hp) (x:V) (v:Value) (Q:VK),Inv X pins σ H s->RelV x v->r x H Q ->
  wpAny (model X.prog X.w) X.A (f v) (EP X pins σ Q) X.xe s
def CallR (X:Cx) (f:Value) (r:List V->Hp->VK->Prop):Prop:=
 ∀ (pins:List (Addr × Obj)) (s:Shared) (σ:St) (H:Hp) (xs:List V) (us:List Value) (Q:VK),Inv X pins σ H s->Vals xs us->r xs H Q ->
  wpAny (model X.prog X.w) X.A (call f us) (EP X pins σ Q) X.xe s
def TruR (X:Cx) (r:V->Hp->(Bool->Hp->Prop)->Prop):Prop:=
 ∀ (pins:List (Addr × Obj)) (s:Shared) (σ:St) (H:Hp) (x:V) (v:Value) (Q:Bool->Hp->Prop),Inv X pins σ H s->RelV x v->r x H Q ->
  wpAny (model X.prog X.w) X.A (truthy v) (TP X pins σ Q) X.xe s
def tOp (r:R2) (ta tb:TE):TE:=fun σ H Q=>ta σ H fun x H1=>tb σ H1 fun y H2=>r x y H2 Q
def tUn (r:V->Hp->VK->Prop) (ta:TE):TE:=fun σ H Q=>ta σ H fun x H1=>r x H1 Q
def rI (C:Int->Int->Prop) (g:Int->Int->V):R2:=fun x y H Q=>∃ i j,x = .int i/\y = .int j/\C i j/\Q (g i j) H
def rI0 (g:Int->Int->V):R2:=fun x y H Q=>∃ i j,x = .int i/\y = .int j/\Q (g i j) H
def rU (g:Int->V):V->Hp->VK->Prop:=fun x H Q=>∃ i,x = .int i/\Q (g i) H
section
variable {X:Cx} {a b c:Expr} {ta tb tc:TE} {pos:Pos}
theorem binT (ha:PE X a ta) (hb:PE X b tb) {pins:List (Addr × Obj)} {s:Shared} {σ:St} {H:Hp} {R:V->V->Hp->Prop} (I:Inv X pins σ H s)
 (h:ta σ H fun x H1=>tb σ H1 fun y H2=>R x y H2) {Q:Value->Shared->Prop} {f:Value->Value->Sem Value}
 (hf:∀ v u s2 x y H2,Inv X pins σ H2 s2->RelV x v->RelV y u->R x y H2->wpAny (model X.prog X.w) X.A (f v u) Q X.xe s2) :
 wpAny (model X.prog X.w) X.A (eval a X.env) (fun v s₁=>wpAny (model X.prog X.w) X.A (eval b X.env) (fun u s₂=>wpAny (model X.prog X.w) X.A (f v u) Q X.xe s₂) X.xe s₁) X.xe s:=by
 refine thn (ha pins s σ H _ I h) fun v s1 ⟨x,H1,I1,r1,q1⟩=>?_
 refine thn (hb pins s1 σ H1 _ I1 q1) fun u s2 ⟨y,H2,I2,r2,q2⟩=>?_
 exact hf v u s2 x y H2 I2 r1 r2 q2
theorem pe_op {op:Operator} {r:R2} (ho:OpR X (binaryOp op) r) (ha:PE X a ta) (hb:PE X b tb):PE X (.BinOp a op b pos) (tOp r ta tb):=by
 intro pins s σ H Q I h
 exact wpAny_BinOp (binT ha hb I h fun v u s2 x y H2 I2 rx ry q=>ho pins s2 σ H2 x y v u Q I2 rx ry q)
theorem pe_un {op:UnaryOp} {r:V->Hp->VK->Prop} (ho:UnR X (unaryOp op) r) (ha:PE X a ta):PE X (.UnaryOp op a pos) (tUn r ta):=by
 intro pins s σ H Q I h
 exact UnaryOp_ (thn (ha pins s σ H _ I h) fun v s1 ⟨x,H1,I1,r1,q1⟩=>ho pins s1 σ H1 x v Q I1 r1 q1)
theorem opI {f:Value->Value->Sem Value} {C:Int->Int->Prop} {g:Int->Int->Int}
 (rule:∀ (i j:Int) (t u:Tok) (s:Shared) (Q:Value->Shared->Prop) (E:Value->Shared->Prop),C i j->Q (.int (g i j) s.toks) { s with toks:=s.toks + 1 }->wpAny (model X.prog X.w) X.A (f (.int i t) (.int j u)) Q E s) :
 OpR X f (rI C fun i j=>.int (g i j)):=by
 intro pins s σ H x y v u Q I rx ry h
 obtain ⟨i,j,rfl,rfl,hc,q⟩:=h
 obtain ⟨t,rfl⟩:=rx
 obtain ⟨t',rfl⟩:=ry
 exact rule i j t t' s _ _ hc ⟨.int (g i j),H,I.tok _,⟨_,rfl⟩,q⟩
theorem opI0 {f:Value->Value->Sem Value} {g:Int->Int->Int}
 (rule:∀ (i j:Int) (t u:Tok) (s:Shared) (Q:Value->Shared->Prop) (E:Value->Shared->Prop),Q (.int (g i j) s.toks) { s with toks:=s.toks + 1 }->wpAny (model X.prog X.w) X.A (f (.int i t) (.int j u)) Q E s) :
 OpR X f (rI0 fun i j=>.int (g i j)):=by
 intro pins s σ H x y v u Q I rx ry h
 obtain ⟨i,j,rfl,rfl,q⟩:=h
 obtain ⟨t,rfl⟩:=rx
 obtain ⟨t',rfl⟩:=ry
 exact rule i j t t' s _ _ ⟨.int (g i j),H,I.tok _,⟨_,rfl⟩,q⟩
theorem opB0 {f:Value->Value->Sem Value} {g:Int->Int->Bool}
 (rule:∀ (i j:Int) (t u:Tok) (s:Shared) (Q:Value->Shared->Prop) (E:Value->Shared->Prop),Q (.bool (g i j)) s->wpAny (model X.prog X.w) X.A (f (.int i t) (.int j u)) Q E s) :
 OpR X f (rI0 fun i j=>.bl (g i j)):=by
 intro pins s σ H x y v u Q I rx ry h
 obtain ⟨i,j,rfl,rfl,q⟩:=h
 obtain ⟨t,rfl⟩:=rx
 obtain ⟨t',rfl⟩:=ry
 exact rule i j t t' s _ _ ⟨.bl (g i j),H,I,rfl,q⟩
def CPow (i j:Int):Prop:=0<=j/\j<=1000000/\i.natAbs < 2 ^ 64
def CMul (i j:Int):Prop:=(-(2 ^ 64) < i/\i < 2 ^ 64) \/ (-(2 ^ 64) < j/\j < 2 ^ 64)
theorem CMul.ok {i j:Int} (h:CMul i j):IntMulOk i j:=by
 rcases h with ⟨h1,h2⟩ | ⟨h1,h2⟩
 . exact .of_left (intBits_le_64 h1 h2)
 . exact .of_right (intBits_le_64 h1 h2)
theorem op_add:OpR X (binaryOp .Add) (rI0 fun i j=>.int (i + j)):=opI0 fun _ _ _ _ _ _ _ q=>add_int q
theorem op_sub:OpR X (binaryOp .Sub) (rI0 fun i j=>.int (i - j)):=opI0 fun _ _ _ _ _ _ _ q=>sub_int q
theorem op_mul:OpR X (binaryOp .Mult) (rI CMul fun i j=>.int (i * j)):=opI fun _ _ _ _ _ _ _ hc q=>mul_int q hc.ok
theorem op_shl:OpR X (binaryOp .LShift) (rI CPow fun i j=>.int (i * 2 ^ j.toNat)):=opI fun _ _ _ _ _ _ _ hc q=>lshift_int_small hc.1 hc.2.1 hc.2.2 q
theorem iop_or:OpR X (inplaceOp .BitOr) (rI0 fun i j=>.int (Builtin.bitOr i j)):=opI0 fun _ _ _ _ _ _ _ q=>ior_int q
theorem unI {f:Value->Sem Value} {g:Int->Int}
 (rule:∀ (i:Int) (t:Tok) (s:Shared) (Q:Value->Shared->Prop) (E:Value->Shared->Prop),Q (.int (g i) s.toks) { s with toks:=s.toks + 1 }->wpAny (model X.prog X.w) X.A (f (.int i t)) Q E s) :
 UnR X f (rU fun i=>.int (g i)):=by
 intro pins s σ H x v Q I rx h
 obtain ⟨i,rfl,q⟩:=h
 obtain ⟨t,rfl⟩:=rx
 exact rule i t s _ _ ⟨.int (g i),H,I.tok _,⟨_,rfl⟩,q⟩
theorem un_neg:UnR X (unaryOp .USub) (rU fun i=>.int (-i)):=unI fun _ _ _ _ _ q=>neg_int q
end
def scal:V->V->Bool
 | .non,.non=>true | .non,.int _=>true | .int _,.non=>true | .non,.bl _=>true | .bl _,.non=>true | .non,.str _=>true | .str _,.non=>true
 | .int _,.int _=>true | .bl _,.bl _=>true | .str _,.str _=>true | .byt _,.byt _=>true
 | .int _,.str _=>true | .str _,.int _=>true | .bl _,.str _=>true | .str _,.bl _=>true
 | _,_=>false
def rEq:R2:=fun x y H Q=>scal x y=true/\Q (.bl (decide (x=y))) H
def rNe:R2:=fun x y H Q=>scal x y=true/\Q (.bl (!decide (x=y))) H
theorem dec_int {i j:Int}:decide (V.int i=V.int j)=(i == j):=by
 rw [Bool.eq_iff_iff]
 simp
theorem dec_bl {i j:Bool}:decide (V.bl i=V.bl j)=(i == j):=by
 rw [Bool.eq_iff_iff]
 simp
theorem dec_str {i j:Str}:decide (V.str i=V.str j)=(i == j):=by
 rw [Bool.eq_iff_iff]
 simp
theorem dec_byt {i j:Array UInt8}:decide (V.byt i=V.byt j)=(i.toList == j.toList):=by
 rw [Bool.eq_iff_iff]
 cases i
 cases j
 simp
section
variable {X:Cx} {a b c:Expr} {ta tb tc:TE} {pos:Pos}
theorem fin_bl {pins:List (Addr × Obj)} {σ:St} {H:Hp} {s:Shared} {Q:VK} {k k':Bool} (I:Inv X pins σ H s) (q:Q (.bl k) H) (e:k=k'):EP X pins σ Q (.bool k') s:=by
 subst e
 exact ⟨.bl k,H,I,rfl,q⟩
theorem op_eq:OpR X (compareOp .Eq) rEq:=by
 intro pins s σ H x y v u Q I rx ry h
 obtain ⟨hs,q⟩:=h
 cases x with
 | non=>
  cases rx
  cases y with
  | non=>cases ry; exact PySem.EqNone.eq_none_none (fin_bl I q (by simp))
  | bl j=>cases ry; exact PySem.EqNone.eq_none_bool (fin_bl I q (by simp))
  | int j=>obtain ⟨t',rfl⟩:=ry; exact PySem.EqNone.eq_none_int (fin_bl I q (by simp))
  | str j=>obtain ⟨t',rfl⟩:=ry; exact PySem.EqNone.eq_none_str (fin_bl I q (by simp))
  | _=>exact absurd (show false=true from hs) Bool.false_ne_true
 | bl i=>
  cases rx
  cases y with
  | non=>cases ry; exact PySem.EqNone.eq_bool_none (fin_bl I q (by simp))
  | bl j=>cases ry; exact eq_bool (fin_bl I q dec_bl)
  | str j=>obtain ⟨t',rfl⟩:=ry; exact PySem.EqMixed.eq_bool_str (fin_bl I q (by simp))
  | _=>exact absurd (show false=true from hs) Bool.false_ne_true
 | int i=>
  obtain ⟨t,rfl⟩:=rx
  cases y with
  | non=>cases ry; exact PySem.EqNone.eq_int_none (fin_bl I q (by simp))
  | int j=>obtain ⟨t',rfl⟩:=ry; exact eq_int (fin_bl I q dec_int)
  | str j=>obtain ⟨t',rfl⟩:=ry; exact PySem.EqMixed.eq_int_str (fin_bl I q (by simp))
  | _=>exact absurd (show false=true from hs) Bool.false_ne_true
 | str i=>
  obtain ⟨t,rfl⟩:=rx
  cases y with
  | non=>cases ry; exact PySem.EqNone.eq_str_none (fin_bl I q (by simp))
  | bl j=>cases ry; exact PySem.EqMixed.eq_str_bool (fin_bl I q (by simp))
  | int j=>obtain ⟨t',rfl⟩:=ry; exact PySem.EqMixed.eq_str_int (fin_bl I q (by simp))
  | str j=>obtain ⟨t',rfl⟩:=ry; exact eq_str (fin_bl I q dec_str)
  | _=>exact absurd (show false=true from hs) Bool.false_ne_true
 | byt i=>
  obtain ⟨t,rfl⟩:=rx
  cases y with
  | byt j=>obtain ⟨t',rfl⟩:=ry; exact PySem.W.eq_bytes (fin_bl I q dec_byt)
  | _=>exact absurd (show false=true from hs) Bool.false_ne_true
 | _=>cases y <;> exact absurd (show false=true from hs) Bool.false_ne_true
theorem op_ne:OpR X (compareOp .NotEq) rNe:=by
 intro pins s σ H x y v u Q I rx ry h
 obtain ⟨hs,q⟩:=h
 cases x with
 | non=>
  cases rx
  cases y with
  | non=>cases ry; exact PySem.EqNone.ne_none_none (fin_bl I q (by simp))
  | bl j=>cases ry; exact PySem.EqNone.ne_none_bool (fin_bl I q (by simp))
  | int j=>obtain ⟨t',rfl⟩:=ry; exact PySem.EqNone.ne_none_int (fin_bl I q (by simp))
  | str j=>obtain ⟨t',rfl⟩:=ry; exact PySem.EqNone.ne_none_str (fin_bl I q (by simp))
  | _=>exact absurd (show false=true from hs) Bool.false_ne_true
 | bl i=>
  cases rx
  cases y with
  | non=>cases ry; exact PySem.EqNone.ne_bool_none (fin_bl I q (by simp))
  | bl j=>cases ry; exact ne_bool (fin_bl I q (congrArg not dec_bl))
  | str j=>obtain ⟨t',rfl⟩:=ry; exact PySem.EqMixed.ne_bool_str (fin_bl I q (by simp))
  | _=>exact absurd (show false=true from hs) Bool.false_ne_true
 | int i=>
  obtain ⟨t,rfl⟩:=rx
  cases y with
  | non=>cases ry; exact PySem.EqNone.ne_int_none (fin_bl I q (by simp))
  | int j=>obtain ⟨t',rfl⟩:=ry; exact ne_int (fin_bl I q (congrArg not dec_int))
  | str j=>obtain ⟨t',rfl⟩:=ry; exact PySem.EqMixed.ne_int_str (fin_bl I q (by simp))
  | _=>exact absurd (show false=true from hs) Bool.false_ne_true
 | str i=>
  obtain ⟨t,rfl⟩:=rx
  cases y with
  | non=>cases ry; exact PySem.EqNone.ne_str_none (fin_bl I q (by simp))
  | bl j=>cases ry; exact PySem.EqMixed.ne_str_bool (fin_bl I q (by simp))
  | int j=>obtain ⟨t',rfl⟩:=ry; exact PySem.EqMixed.ne_str_int (fin_bl I q (by simp))
  | str j=>obtain ⟨t',rfl⟩:=ry; exact ne_str (fin_bl I q (congrArg not dec_str))
  | _=>exact absurd (show false=true from hs) Bool.false_ne_true
 | byt i=>
  obtain ⟨t,rfl⟩:=rx
  cases y with
  | byt j=>obtain ⟨t',rfl⟩:=ry; exact PySem.W.ne_bytes (fin_bl I q (congrArg not dec_byt))
  | _=>exact absurd (show false=true from hs) Bool.false_ne_true
 | _=>cases y <;> exact absurd (show false=true from hs) Bool.false_ne_true
theorem op_lt:OpR X (compareOp .Lt) (rI0 fun i j=>.bl (decide (i < j))):=opB0 fun _ _ _ _ _ _ _ q=>lt_int q
theorem op_le:OpR X (compareOp .LtE) (rI0 fun i j=>.bl (decide (i<=j))):=opB0 fun _ _ _ _ _ _ _ q=>le_int q
theorem op_gt:OpR X (compareOp .Gt) (rI0 fun i j=>.bl (decide (j < i))):=opB0 fun _ _ _ _ _ _ _ q=>gt_int q
theorem nomark (b:Expr) {op:CmpOp} (h:op ≠ .In:=by decide) (h2:op ≠ .NotIn:=by decide):behindInMarks op b=false:=by
 have e1:(op == CmpOp.In)=false:=by cases op <;> first | rfl | exact absurd rfl h
 have e2:(op == CmpOp.NotIn)=false:=by cases op <;> first | rfl | exact absurd rfl h2
 cases b <;> simp [behindInMarks,e1,e2]
def tTest (t:TE):TT:=fun σ H Q=>t σ H fun x H'=>∃ k,x = .bl k/\Q k H'
theorem pt_cmpR {op:CmpOp} {r:R2} (ho:OpR X (compareOp op) r) (ha:PE X a ta) (hb:PE X b tb) (hm:behindInMarks op b=false):PT X (.Compare a [op] [b] pos) (tTest (tOp r ta tb)):=by
 intro pins s σ H Q I h
 refine wpAny_isTrue_Compare1 (thn (ha pins s σ H _ I h) fun v s1 ⟨x,H1,I1,r1,q1⟩=>thn (hb pins s1 σ H1 _ I1 q1) fun u s2 ⟨y,H2,I2,r2,q2⟩=>
  thn (ho pins s2 σ H2 x y v u _ I2 r1 r2 q2) fun c s3 ⟨z,H3,I3,r3,k,e,q3⟩=>?_) hm
 subst e
 cases r3
 exact wpAny_truthy_bool ⟨H3,I3,q3⟩
def tChain (r r':R2) (ta tb tc:TE):TE:=fun σ H Q=>ta σ H fun x H1=>tb σ H1 fun y H2=>r x y H2 fun z H3=>∃ k,z = .bl k /\
 (if k=true then tc σ H3 fun w' H4=>r' y w' H4 Q else Q (.bl false) H3)
theorem pe_chain {op op':CmpOp} {r r':R2} (ho:OpR X (compareOp op) r) (ho':OpR X (compareOp op') r') (ha:PE X a ta) (hb:PE X b tb) (hc:PE X c tc)
 (hm:lastMarks [op,op'] [b,c]=false:=by with_unfolding_all rfl):PE X (.Compare a [op,op'] [b,c] pos) (tChain r r' ta tb tc):=by
 intro pins s σ H Q I h
 refine Compare_chain (thn (ha pins s σ H _ I h) fun v s1 ⟨x,H1,I1,r1,q1⟩=>chain_link (thn (hb pins s1 σ H1 _ I1 q1) fun u s2 ⟨y,H2,I2,r2,q2⟩=>
  thn (ho pins s2 σ H2 x y v u _ I2 r1 r2 q2) fun d s3 ⟨z,H3,I3,r3,k,e,q3⟩=>?_)) hm
 subst e
 cases r3
 refine wpAny_truthy_bool ?_
 cases k with
 | false=>exact ite_ff ⟨.bl false,H3,I3,rfl,q3⟩
 | true=>exact ite_tt (chain_last (thn (hc pins s3 σ H3 _ I3 q3) fun w' s4 ⟨z',H4,I4,r4,q4⟩=>ho' pins s4 σ H4 y z' u w' Q I4 r2 r4 q4))
def TruV (K:PySem.W.Frag) (x:V) (H:Hp) (k:Bool):Prop:=
 match x with
 | .non=>k=false
 | .bl b=>k=b
 | .int i=>k=(i != 0)
 | .str y=>y.length<=sizeLine/\k=((y.length:Int) != 0)
 | .byt y=>y.size<=sizeLine/\k=((y.size:Int) != 0)
 | .ref p=>(∃ xs,SqL K H p xs/\k = !xs.isEmpty) \/ (∃ xs,SqT K H p xs/\k = !xs.isEmpty) \/ ∃ kvs,H p=some (.dK kvs)/\k = !kvs.isEmpty
 | _=>False
theorem isEmpty_kv {κ:Type} {kvs:List (κ × V)} {vs:List (κ × Value)} (r:KV kvs vs):(!vs.isEmpty) = !kvs.isEmpty:=by
 cases r <;> rfl
theorem isEmpty_of {xs:List V} {its:List Value} (r:Vals xs its):(!its.toArray.isEmpty) = !xs.isEmpty:=by
 cases r <;> simp
theorem line63:(sizeLine:Nat) < 2 ^ 63:=by rw [sizeLine_eq]; decide
theorem tru_ok:TruR X (fun x H Q=>∃ k,TruV X.K x H k/\Q k H):=by
 intro pins s σ H x v Q I rx h
 obtain ⟨k,e,q⟩:=h
 have hl:=line63
 have hs:sizeLine=16777216:=sizeLine_eq
 cases x with
 | non=>
  cases rx
  have e':k=false:=e
  subst e'
  exact truthy_none ⟨H,I,q⟩
 | bl b=>
  cases rx
  have e':k=b:=e
  subst e'
  exact wpAny_truthy_bool ⟨H,I,q⟩
 | int i=>
  obtain ⟨t,rfl⟩:=rx
  have e':k=(i != 0):=e
  subst e'
  exact PySem.P.truthy_int ⟨H,I,q⟩
 | str y=>
  obtain ⟨t,rfl⟩:=rx
  obtain ⟨hy,e'⟩:y.length<=sizeLine/\k=((y.length:Int) != 0):=e
  subst e'
  exact PySem.P.truthy_str (by omega) ⟨H,I.tok _,q⟩
 | byt y=>
  obtain ⟨t,rfl⟩:=rx
  obtain ⟨hy,e'⟩:y.size<=sizeLine/\k=((y.size:Int) != 0):=e
  subst e'
  exact PySem.W.truthy_bytes (by omega) ⟨H,I.tok _,q⟩
 | ref p=>
  cases rx
  have e':(∃ xs,SqL X.K H p xs/\k = !xs.isEmpty) \/ (∃ xs,SqT X.K H p xs/\k = !xs.isEmpty) \/ ∃ kvs,H p=some (.dK kvs)/\k = !kvs.isEmpty:=e
  rcases e' with ⟨xs,hx,e'⟩ | ⟨xs,hx,e'⟩ | ⟨kvs,hx,e'⟩
  . subst e'
    obtain ⟨its,r,pl,hz⟩:=I.list hx
    have hlen:=r.length
    exact wpAny_truthy_list pl.isList (by simp only [List.size_toArray]; omega) ⟨H,I.tok _,by rw [isEmpty_of r]; exact q⟩
  . subst e'
    obtain ⟨its,r,pl,hz⟩:=I.tuple hx
    have hlen:=r.length
    exact truthy_tuple pl (by simp only [List.size_toArray]; omega) ⟨H,I.tok _,by rw [isEmpty_of r]; exact q⟩
  . subst e'
    obtain ⟨hz,hS,vs,r,m⟩:kvs.length<=sizeLine/\(p == sysModules)=false/\∃ vs,KV kvs vs/\s.heap.DictOf (mixKind X.prog X.w) p vs:=I.hok p _ hx
    have hlen:kvs.length=vs.length:=Paired.length r
    exact wpAny_truthy_dict hS m (by omega) ⟨H,I.tok _,by rw [isEmpty_kv r]; exact q⟩
 | _=>exact (show False from e).elim
theorem pt_truth (ha:PE X a ta) (he:∀ whole,isTrue a X.env whole=(do let v <- whole; standAt a.pos; holding [v] (truthy v))) :
 PT X a (fun σ H Q=>ta σ H fun x H'=>∃ k,TruV X.K x H' k/\Q k H'):=by
 intro pins s σ H Q I h
 exact isTrue_plain (thn (ha pins s σ H _ I h) fun v s1 ⟨x,H1,I1,r1,q1⟩=>tru_ok pins s1 σ H1 x v Q I1 r1 q1) (he _)
theorem op_add_str:OpR X (binaryOp .Add) (fun x y H Q=>∃ i j,x = .str i/\y = .str j/\i.length + j.length<=sizeLine/\Q (.str (i ++ j)) H):=by
 intro pins s σ H x y v u Q I rx ry h
 obtain ⟨i,j,rfl,rfl,hz,q⟩:=h
 obtain ⟨t,rfl⟩:=rx
 obtain ⟨t',rfl⟩:=ry
 exact add_str (fun t' tk=>⟨.str (i ++ j),H,I.tok _,⟨_,rfl⟩,q⟩) hz
theorem vals1 {x:V} {us:List Value} (r:Vals [x] us):∃ u,us=[u]/\RelV x u:=by
 cases r with
 | cons r1 r2=>cases r2; exact ⟨_,rfl,r1⟩
theorem call_abs:CallR X (.builtin "abs") (fun xs H Q=>∃ i,xs=[.int i]/\Q (.int (if i < 0 then -i else i)) H):=by
 intro pins s σ H xs us Q I r h
 obtain ⟨i,rfl,q⟩:=h
 obtain ⟨u,rfl,t,rfl⟩:=vals1 r
 exact call_abs_int fun u tk=>⟨.int (if i < 0 then -i else i),H,I.tok _,⟨_,rfl⟩,q⟩
theorem call_ord:CallR X (.builtin "ord") (fun xs H Q=>∃ x,xs=[.str x]/\x.length=1/\Q (.int (x.cps.getD 0 0:Nat)) H):=by
 intro pins s σ H xs us Q I r h
 obtain ⟨x,rfl,hz,q⟩:=h
 obtain ⟨u,rfl,t,rfl⟩:=vals1 r
 exact ord_of_one hz ⟨.int _,H,I.tok _,⟨_,rfl⟩,q⟩
end
end L2
namespace L2
open PySem PySem.Spec PyProof.Rows
structure ObjM (h:Heap) (x dx C:Addr) (mA:Str->Option Value):Prop where
 obj:h.get? x=some (PySem.W.instObj C dx)
 ns:h.Ns1 dx mA
 ne:dx ≠ x
theorem lookIn_ns {h:Heap} {dx:Addr} {mA:Str->Option Value} (n:h.Ns1 dx mA):∃ od,h.get? dx=some od/\∀ name,PySem.W.lookIn name od=some (mA name):=by
 obtain ⟨o,es,ep,ho,hd,hk,_,hm⟩:=n
 refine ⟨o,ho,fun name=>?_⟩
 have e:=hm name
 unfold nsFind findBy at e
 rw [<- Array.find?_toList] at e
 unfold PySem.W.lookIn
 rw [hd]
 dsimp only
 split
 . rename_i y q
   rw [q] at e
   exact congrArg some e
 . rename_i q
   rw [q] at e
   have a:es.toList.any (·.refKey)=false:=by
    rw [List.any_eq_false]
    intro y hy
    obtain ⟨z,t,hkey⟩:=hk y (Array.mem_toList_iff.mp hy)
    simp [DictEntry.refKey,hkey]
   have a':¬ es.toList.any (·.refKey)=true:=by rw [a]; exact Bool.false_ne_true
   rw [if_neg a']
   exact congrArg some e
theorem ObjM.look {h:Heap} {x dx C:Addr} {mA:Str->Option Value} (I:ObjM h x dx C mA):∃ od,PySem.W.InstAt h x (PySem.W.instObj C dx) C (some od)/\∀ name,PySem.W.lookIn name od=some (mA name):=
 let ⟨od,ho,hl⟩:=lookIn_ns I.ns
 ⟨od,⟨I.obj,rfl,rfl,ho⟩,hl⟩
section
variable {prog:Program} {w:World} {A:Around} {E:Value->Shared->Prop} {s:Shared} {K:PySem.W.Frag} {x dx C f:Addr} {mA:Str->Option Value} {name:Str} {v:Value}
theorem get_map {expr:Bool} {Q:Value->Shared->Prop} (X:K.In s.heap) (I:ObjM s.heap x dx C mA) (hg:PySem.W.plainGet K C name=true) (hh:PySem.W.hasDictIn K C=true)
 (ha:PySem.W.findIn K (.ref C) name=some none) (hv:mA name=some v) (hv':PySem.W.handedIn v=true) (h:Q v { s with toks:=s.toks + 1 }) :
 wpAny (model prog w) A (getAttr (.ref x) name expr) Q E s:=by
 obtain ⟨od,J,hl⟩:=I.look
 exact PySem.W.get_value X J (PySem.W.plainGet_of hg).1 (PySem.W.findObj_own hh ha rfl (by rw [hl,hv])) hv' h
theorem get_meth {pl:Sem Bool} {Q:Value × List Value->Shared->Prop} (X:K.In s.heap) (I:ObjM s.heap x dx C mA) (hg:PySem.W.plainGet K C name=true)
 (hf:PySem.W.findIn K (.ref C) name=some (some (.ref f))) (ht:PySem.W.isFn K (.ref f)=true) (hv:mA name=none) (h:Q (.ref f,[.ref x]) s) :
 wpAny (model prog w) A (getMethod (.ref x) name pl) Q E s:=by
 obtain ⟨od,J,hl⟩:=I.look
 exact PySem.W.method_fn X J (PySem.W.plainGet_of hg).1 (PySem.W.plainGet_of hg).2 hf (beq_iff_eq.mp ht) (by show (PySem.W.lookIn name od).map (·.isSome)=some false; rw [hl,hv]; rfl) h
theorem set_map {ns:List Str} {Q:Unit->Shared->Prop} (X:K.In s.heap) (I:ObjM s.heap x dx C mA)
 (hs:PySem.W.findIn K (.ref C) "__setattr__" = some (some (.builtin "object.__setattr__"))) (hp:PySem.W.plainOver K C=true) (ht:PySem.W.takerIn K C name=some none) (hh:PySem.W.hasDictIn K C=true)
 (hw:PySem.Within mA ns) (hsz:ns.length<=sizeLine)
 (h:∀ h',ObjM h' x dx C (fun y=>if y=name then some v else mA y)->Heap.SameBut dx s.heap h'->Q () { s with heap:=h',toks:=s.toks + 2 }) :
 wpAny (model prog w) A (setAttr (.ref x) name v) Q E s:=by
 obtain ⟨od,J,hl⟩:=I.look
 refine PySem.W.set_plain X J hs (PySem.W.osa_open (s:={ s with toks:=s.toks + 1 }) (r:=none) X J hp ht fun b=>?_)
 obtain ⟨cd,hc,hd'⟩:=PySem.W.any_some hh
 have hx:s.heap.get? x=some ⟨.ref C,some dx,.plain,#[]⟩:=I.obj
 refine wpAny_bind (wpAny_pure (wpAny_bind (wpAny_bind (wpAny_loadPart hx (wpAny_bind (PySem.W.Looks.here (s:={ s with toks:=s.toks + 1 }) (PySem.W.looks_clsIn X hc) ?_))))))
 rw [hd']
 refine wpAny_pure (a:=some dx) (wpAny_bind (wpAny_pure (wpAny_bind ?_)))
 refine wpAny_nsSet1 (s:={ s with toks:=s.toks + 1 }) I.ns fun h' hn2 hs2=>?_
 obtain ⟨oD,esD,epD,hoD,hdD,hcD⟩:=hn2.count (PySem.Within.cons name v hw)
 refine wpAny_bind (wpAny_lookBehind hoD (by rw [hdD]; exact pastItsLine_dict (Nat.le_trans hcD (by rw [List.length_cons]; omega))) ?_)
 exact wpAny_pure (h _ ⟨(hs2.2 _ (Ne.symm I.ne)).trans I.obj,hn2,I.ne⟩ hs2)
theorem make_map {R:Result->Shared->Prop} {vs:List Value} {kw:List (Str × Value)} (X:K.In s.heap) (hm:PySem.W.makesIn K C=true)
 (hi:PySem.W.findIn K (.ref C) "__init__" = some (some (.ref f))) (hf:PySem.W.typeIn K (.ref f)=some (.type "function"))
 (h:codeAny (model prog w) (A.under (.builtin "type.__call__" ⟨.ref C :: vs,kw⟩)) (.call (.ref f) ⟨.ref (s.heap.objs.size + 1) :: vs,kw⟩) (PySem.W.InitBack (s.heap.objs.size + 1) R)
  { s with heap:=(s.heap.push PySem.W.emptyDict).push (PySem.W.instObj C s.heap.objs.size) }) :
 codeAny (model prog w) A (.call (.ref C) ⟨vs,kw⟩) R s:=by
 obtain ⟨hh,g,d,t,os⟩:=s
 exact PySem.W.make_core (PySem.W.makes_of X hm) (PySem.W.looks_findIn X hi) (fun self=>PySem.W.bind_fn X self hf) (.inl rfl) h
end
def putF (f:Str) (v:V):List (Str × V)->List (Str × V)
 | []=>[(f,v)]
 | (g,x) :: r=>if g=f then (g,v) :: r else (g,x) :: putF f v r
theorem lookup_putF (f g:Str) (v:V):∀ fs:List (Str × V),(putF f v fs).lookup g=if g=f then some v else fs.lookup g
 | []=>by
  show List.lookup g [(f,v)]=_
  by_cases h:g=f
  . have hb:(g == f)=true:=beq_iff_eq.mpr h
    simp only [List.lookup,hb,if_pos h]
  . have hb:(g == f)=false:=beq_eq_false_iff_ne.mpr h
    simp only [List.lookup,hb,if_neg h]
 | (k,x) :: r=>by
  have ih:=lookup_putF f g v r
  rw [show putF f v ((k,x) :: r)=(if k=f then (k,v) :: r else (k,x) :: putF f v r) from rfl]
  by_cases hk:k=f
  . rw [if_pos hk]
    by_cases h:g=k
    . have hb:(g == k)=true:=beq_iff_eq.mpr h
      simp only [List.lookup,hb,if_pos (h.trans hk)]
    . have hb:(g == k)=false:=beq_eq_false_iff_ne.mpr h
      simp only [List.lookup,hb,if_neg (fun e:g=f=>h (e.trans hk.symm))]
  . rw [if_neg hk]
    by_cases h:g=k
    . have hb:(g == k)=true:=beq_iff_eq.mpr h
      simp only [List.lookup,hb,if_neg (fun e:g=f=>hk (h.symm.trans e))]
    . have hb:(g == k)=false:=beq_eq_false_iff_ne.mpr h
      simp only [List.lookup,hb]
      exact ih
theorem keys_putF (f:Str) (v:V):∀ fs:List (Str × V),f ∈ (putF f v fs).map (·.1)/\∀ g,g ∈ fs.map (·.1)->g ∈ (putF f v fs).map (·.1)
 | []=>⟨by simp [putF],fun g h=>by simp at h⟩
 | (k,x) :: r=>by
  obtain ⟨i1,i2⟩:=keys_putF f v r
  rw [show putF f v ((k,x) :: r)=(if k=f then (k,v) :: r else (k,x) :: putF f v r) from rfl]
  by_cases hk:k=f
  . rw [if_pos hk]
    subst hk
    exact ⟨by simp,fun g h=>by simpa using h⟩
  . rw [if_neg hk]
    refine ⟨?_,fun g h=>?_⟩
    . rw [List.map_cons]
      exact List.mem_cons_of_mem _ i1
    . rw [List.map_cons] at h ⊢
      rcases List.mem_cons.mp h with e | e
      . exact List.mem_cons.mpr (.inl e)
      . exact List.mem_cons_of_mem _ (i2 g e)
theorem length_putF (f:Str) (v:V):∀ fs:List (Str × V),(putF f v fs).length<=fs.length + 1
 | []=>by simp [putF]
 | (k,x) :: r=>by
  have ih:=length_putF f v r
  rw [show putF f v ((k,x) :: r)=(if k=f then (k,v) :: r else (k,x) :: putF f v r) from rfl]
  by_cases hk:k=f
  . rw [if_pos hk,List.length_cons,List.length_cons]; omega
  . rw [if_neg hk,List.length_cons,List.length_cons]; omega
theorem RelO.some_of {v:V} {o:Option Value} (r:RelO (some v) o):∃ u,o=some u/\RelV v u:=by
 cases o with
 | none=>exact (show False from r).elim
 | some u=>exact ⟨u,rfl,r⟩
theorem RelO.none_of {o:Option Value} (r:RelO none o):o=none:=by
 cases o with
 | none=>rfl
 | some u=>exact (show False from r).elim
theorem handed_of {v:V} {u:Value} (r:RelV v u):PySem.W.handedIn u=true:=by
 cases v with
 | non=>cases (show u=Value.none from r); rfl
 | bl b=>cases (show u=Value.bool b from r); rfl
 | int i=>obtain ⟨t,e⟩:=(show ∃ t,u=Value.int i t from r); cases e; rfl
 | str x=>obtain ⟨t,e⟩:=(show ∃ t,u=Value.str x t from r); cases e; rfl
 | byt b=>obtain ⟨t,e⟩:=(show ∃ t,u=Value.bytes b t from r); cases e; rfl
 | flt b=>obtain ⟨t,e⟩:=(show ∃ t,u=Value.float b t from r); cases e; rfl
 | ref a=>cases (show u=Value.ref a from r); rfl
 | ty n=>cases (show u=Value.type n from r); rfl
section
variable {P:Program} {w:World} {H H':Hp} {h h':Heap} {a C dx:Addr} {fs fs':List (Str × V)}
theorem ins_get (hok:HOk P w H h) (e:H a=some (.ins C dx fs)):∃ mA,ObjM h a dx C mA/\(∀ f,RelO (fs.lookup f) (mA f))/\PySem.Within mA (fs.map (·.1))/\fs.length<=1000/\H dx=some (.own a):=by
 obtain ⟨d,z,ne,ob,mA,n,r,q⟩:=(show ObjOk P w H h a (.ins C dx fs) from hok a _ e)
 exact ⟨mA,⟨ob,n,ne⟩,r,q,z,d⟩
end
structure Cls (K:PySem.W.Frag) (C:Addr):Prop where
 pg:PySem.W.plainGet K C Str.empty=true
 hd:PySem.W.hasDictIn K C=true
 po:PySem.W.plainOver K C=true
 sa:PySem.W.findIn K (.ref C) "__setattr__" = some (some (.builtin "object.__setattr__"))
theorem Cls.get {K:PySem.W.Frag} {C:Addr} (c:Cls K C) (f:Str):PySem.W.plainGet K C f=true:=c.pg
def NoAttr (K:PySem.W.Frag) (C:Addr) (f:Str):Prop:=PySem.W.findIn K (.ref C) f=some none
theorem NoAttr.taker {K:PySem.W.Frag} {C:Addr} {f:Str} (n:NoAttr K C f):PySem.W.takerIn K C f=some none:=by
 unfold PySem.W.takerIn
 rw [show PySem.W.findIn K (.ref C) f=some none from n]
 rfl
structure Meth (K:PySem.W.Frag) (C:Addr) (m:Str) (f:Addr):Prop where
 at_:PySem.W.findIn K (.ref C) m=some (some (.ref f))
 fn:PySem.W.isFn K (.ref f)=true
 kp:PySem.W.keepIn K (.ref f)=true
section
variable {X:Cx} {pins:List (Addr × Obj)} {σ:St} {H:Hp} {s:Shared} {a C dx:Addr} {fs:List (Str × V)} {f:Str} {v:V} {A:Around} {E:Value->Shared->Prop}
theorem getattr_ok {b:Bool} {Q:Value->Shared->Prop} (I:Inv X pins σ H s) (e:H a=some (.ins C dx fs)) (c:Cls X.K C) (n:NoAttr X.K C f) (l:fs.lookup f=some v)
 (h:∀ u s',Inv X pins σ H s'->RelV v u->Q u s'):wpAny (model X.prog X.w) A (getAttr (.ref a) f b) Q E s:=by
 obtain ⟨mA,O,r,_,_,_⟩:=ins_get I.hok e
 obtain ⟨u,hu,ru⟩:=RelO.some_of (v:=v) (o:=mA f) (by rw [<- l]; exact r f)
 exact get_map I.kIn O (c.get f) c.hd n hu (handed_of ru) (h u _ (I.tok _) ru)
theorem getmeth_ok {m:Str} {g:Addr} {pl:Sem Bool} {Q:Value × List Value->Shared->Prop} (I:Inv X pins σ H s) (e:H a=some (.ins C dx fs)) (c:Cls X.K C) (k:Meth X.K C m g) (l:fs.lookup m=none)
 (h:Q (.ref g,[.ref a]) s):wpAny (model X.prog X.w) A (getMethod (.ref a) m pl) Q E s:=by
 obtain ⟨mA,O,r,_,_,_⟩:=ins_get I.hok e
 have hn:mA m=none:=RelO.none_of (by rw [<- l]; exact r m)
 exact get_meth I.kIn O (c.get m) k.at_ k.fn hn h
theorem setattr_ok {y:V} {u:Value} {Q:Unit->Shared->Prop} (I:Inv X pins σ H s) (e:H a=some (.ins C dx fs)) (c:Cls X.K C) (n:NoAttr X.K C f) (hl:fs.length < 1000) (ry:RelV y u)
 (h:∀ s',Inv X pins σ (upd H a (.ins C dx (putF f y fs))) s'->Q () s'):wpAny (model X.prog X.w) A (setAttr (.ref a) f u) Q E s:=by
 obtain ⟨mA,O,r,wi,_,ho⟩:=ins_get I.hok e
 have hz:(fs.map (·.1)).length<=sizeLine:=by rw [List.length_map,sizeLine_eq]; omega
 refine set_map I.kIn O c.sa c.po n.taker c.hd wi hz fun h' O' sb=>h _ ?_
 have hd:∃ o,h'.get? dx=some o:=let ⟨o,_,_,e',_⟩:=O'.ns; ⟨o,e'⟩
 refine I.write (x:=a) (e:=dx) (by rw [e]; exact True.intro) (.inr ho) (fun b q hb z=>(sb.2 b hb).trans z) hd ?_
 refine ⟨by rw [upd_ne O.ne]; exact ho,?_,O.ne,O'.obj,_,O'.ns,fun g=>?_,fun g hg=>?_⟩
 . have:=length_putF f y fs; omega
 . show RelO ((putF f y fs).lookup g) (if g=f then some u else mA g)
   rw [lookup_putF]
   by_cases q:g=f
   . rw [if_pos q,if_pos q]; exact ry
   . rw [if_neg q,if_neg q]; exact r g
 . by_cases q:g=f
   . rw [q]; exact (keys_putF f y fs).1
   . refine (keys_putF f y fs).2 g (wi g fun z=>hg ?_)
     show (if g=f then some u else mA g)=none
     rw [if_neg q]; exact z
theorem Inv.made (I:Inv X pins σ H s):Inv X pins σ (upd (upd H s.heap.objs.size (.own (s.heap.objs.size + 1))) (s.heap.objs.size + 1) (.ins C s.heap.objs.size []))
 { s with heap:=(s.heap.push PySem.W.emptyDict).push (PySem.W.instObj C s.heap.objs.size) }:=by
 have e1:(s.heap.push PySem.W.emptyDict).get? s.heap.objs.size=some PySem.W.emptyDict:=Heap.get?_push_size s.heap rfl
 have e2:((s.heap.push PySem.W.emptyDict).push (PySem.W.instObj C s.heap.objs.size)).get? (s.heap.objs.size + 1)=some (PySem.W.instObj C s.heap.objs.size):=by
  have:=Heap.get?_push_size (s.heap.push PySem.W.emptyDict) (o:=PySem.W.instObj C s.heap.objs.size) rfl
  rwa [Heap.size_push] at this
 have e3:(s.heap.push PySem.W.emptyDict).Ns s.heap.objs.size (fun _=>none):=⟨PySem.W.emptyDict,#[],_,e1,rfl,(fun e he=>absurd he (by simp)),fun _=>rfl⟩
 have I1:=I.laid (a:=s.heap.objs.size) (o:=.own (s.heap.objs.size + 1)) (h':=s.heap.push PySem.W.emptyDict) (t':=s.toks) (fun b u q=>Heap.get?_push_of_some _ q) (Nat.le_refl _) ⟨_,e1⟩
 refine I1.laid (a:=s.heap.objs.size + 1) (o:=.ins C s.heap.objs.size []) (t':=s.toks) (fun b u q=>Heap.get?_push_of_some _ q) (Nat.le_of_eq (Heap.size_push _ _)) ?_
 have ne:s.heap.objs.size ≠ s.heap.objs.size + 1:=Nat.ne_of_lt (Nat.lt_succ_self _)
 refine ⟨by rw [upd_ne ne,upd_same],Nat.zero_le _,ne,e2,fun _=>none,(Heap.Ns1.of_empty e3).at fun o q=>Heap.get?_push_of_some _ q,fun _=>True.intro,fun y hy=>absurd rfl hy⟩
theorem attr_of {prog:Program} {w:World} {env:Env} {e:Expr} {f:Str} {pos:Pos} {s:Shared} {Q:Value->Shared->Prop} (hb:attributeBase e f env (eval e env)=eval e env)
 (h:wpAny (model prog w) A (eval e env) (fun o s₁=>wpAny (model prog w) A (getAttr o f true) Q E s₁) E s):wpAny (model prog w) A (eval (.Attribute e f pos) env) Q E s:=
 Attribute_any_ h (by rw [arm_eval_Attribute,hb])
end
def tFld (K:PySem.W.Frag) (ta:TE) (f:Str):TE:=fun σ H Q=>ta σ H fun x H1=>∃ a C dx fs v,x = .ref a/\H1 a=some (.ins C dx fs)/\Cls K C/\NoAttr K C f/\fs.lookup f=some v/\Q v H1
def sFld (K:PySem.W.Frag) (ta tv:TE) (f:Str):TS:=fun D σ H=>tv σ H fun y H1=>ta σ H1 fun x H2=>∃ a C dx fs,x = .ref a/\H2 a=some (.ins C dx fs)/\Cls K C/\NoAttr K C f/\fs.length < 1000 /\
 D.nx σ (upd H2 a (.ins C dx (putF f y fs)))
def InOp (X:Cx) (op:Operator) (rd:V->V->Hp->VK->Prop):Prop:=
 ∀ (pins:List (Addr × Obj)) (s:Shared) (σ:St) (H:Hp) (x y:V) (u v:Value) (Q:VK),Inv X pins σ H s->RelV x u->RelV y v->rd x y H Q->wpAny (model X.prog X.w) X.A (inplaceOp op u v) (EP X pins σ Q) X.xe s
def sFldAug (K:PySem.W.Frag) (ta tv:TE) (rd:V->V->Hp->VK->Prop) (f:Str):TS:=fun D σ H=>ta σ H fun x H1=>∃ a C dx fs v,x = .ref a/\H1 a=some (.ins C dx fs)/\Cls K C/\NoAttr K C f/\fs.lookup f=some v /\
 tv σ H1 fun y H2=>rd v y H2 fun z H3=>∃ dx' fs',H3 a=some (.ins C dx' fs')/\fs'.length < 1000/\D.nx σ (upd H3 a (.ins C dx' (putF f z fs')))
section
variable {X:Cx} {o e value:Expr} {f:Str} {pos pos' tpos:Pos} {ta tv:TE}
theorem pe_fld (he:PE X e ta) (hb:attributeBase e f X.env (eval e X.env)=eval e X.env):PE X (.Attribute e f pos) (tFld X.K ta f):=by
 intro pins s σ H Q I h
 refine attr_of hb (thn (he pins s σ H _ I h) fun u s1 ⟨x,H1,I1,rx,a,C,dx,fs,v,ex,ea,c,n,l,q⟩=>?_)
 subst ex
 obtain rfl:u=Value.ref a:=rx
 exact getattr_ok I1 ea c n l fun u' s2 I2 ru=>⟨v,H1,I2,ru,q⟩
theorem ps_fld (ha:PE X o ta) (hv:PE X value tv) (hs:swapsWith value (some (.Attribute o f pos')) pos.line X.env=pure false):PS X (.Assign [.Attribute o f pos'] value pos) (sFld X.K ta tv f):=by
 intro pins s σ H D I h
 refine plainObj_wpAny_Assign_Attribute (thn (hv pins s σ H _ I h) fun u s1 ⟨y,H1,I1,ry,q⟩=>thn (ha pins s1 σ H1 _ I1 q) fun ov s2 ⟨x,H2,I2,rx,a,C,dx,fs,ex,ea,c,n,l,q2⟩=>?_) hs
 subst ex
 obtain rfl:ov=Value.ref a:=rx
 exact setattr_ok I2 ea c n l ry fun s3 I3=>⟨σ,_,I3,q2⟩
theorem ps_fldaug {op:Operator} {rd:V->V->Hp->VK->Prop} (ha:PE X o ta) (hv:PE X value tv) (hop:InOp X op rd):PS X (.AugAssign (.Attribute o f tpos) op value pos) (sFldAug X.K ta tv rd f):=by
 intro pins s σ H D I h
 refine wpAny_AugAssign_AttributeAny (thn (ha pins s σ H _ I h) fun ov s1 ⟨x,H1,I1,rx,a,C,dx,fs,v,ex,ea,c,n,l,q⟩=>?_)
 subst ex
 obtain rfl:ov=Value.ref a:=rx
 refine getattr_ok I1 ea c n l fun u s2 I2 ru=>thn (hv pins s2 σ H1 _ I2 q) fun w3 s3 ⟨y,H2,I3,ry,q3⟩=>thn (hop pins s3 σ H2 v y u w3 _ I3 ru ry q3) fun w4 s4 ⟨z,H3,I4,rz,dx',fs',ea',l',q4⟩=>?_
 exact setattr_ok I4 ea' c n l' rz fun s5 I5=>⟨σ,_,I5,q4⟩
def rAdd:V->V->Hp->VK->Prop:=fun x y H Q=>∃ i j,x = .int i/\y = .int j/\Q (.int (i + j)) H
theorem in_add:InOp X .Add rAdd:=by
 rintro pins s σ H x y u v Q I rx ry ⟨i,j,rfl,rfl,q⟩
 obtain ⟨t,rfl⟩:=(show ∃ t,u=Value.int i t from rx)
 obtain ⟨t',rfl⟩:=(show ∃ t',v=Value.int j t' from ry)
 exact PyProof.Rows.iadd_int ⟨.int (i + j),H,I.tok _,⟨_,rfl⟩,q⟩
end
end L2
namespace L2
open PySem PySem.Spec PyProof.Rows
structure Room (k:Nat) (A:Around):Prop where
 hd:A.handled=none
 dp:A.depth + 3 * k + 5 < recursionLimit
 un:A.units + 16 * k + 200 < cLine
theorem Room.mono {j k:Nat} {A:Around} (r:Room k A) (h:j<=k):Room j A:=⟨r.hd,by have:=r.dp; omega,by have:=r.un; omega⟩
theorem Room.deeper {k:Nat} {A:Around} (r:Room (k + 1) A) (env:Env):Room k (A.deeper env):=
 ⟨r.hd,by have:=r.dp; show A.depth + 1 + 3 * k + 5 < _; omega,by have:=r.un; show A.units + 3 + 16 * k + 200 < _; omega⟩
theorem make_depth {A:Around} {C:Addr} {us:List Value} {kw:List (Str × Value)}:(A.under (.builtin "type.__call__" ⟨.ref C :: us,kw⟩)).depth=A.depth + 1:=by
 first | rfl | simp [Around.under,Code.weight,Code.isCreation,Code.isGuard,Code.isCaller,Code.frames,Code.isFrame,guardIds]
theorem make_units {A:Around} {C:Addr} {us:List Value} {kw:List (Str × Value)}:(A.under (.builtin "type.__call__" ⟨.ref C :: us,kw⟩)).units=A.units + 1:=by
 first | rfl | simp [Around.under,Code.cUnits,Code.frames,Code.isFrame]
theorem Room.make {k:Nat} {A:Around} (r:Room (k + 1) A) (C:Addr) (us:List Value) (kw:List (Str × Value)):Room k (A.under (.builtin "type.__call__" ⟨.ref C :: us,kw⟩)):=
 ⟨r.hd,by have:=r.dp; rw [make_depth]; omega,by have:=r.un; rw [make_units]; omega⟩
theorem Room.depth {k:Nat} {A:Around} (r:Room k A):A.depth < recursionLimit:=by have:=r.dp; omega
theorem Room.units {k:Nat} {A:Around} (r:Room k A):A.units + 64 < cLine:=by have:=r.un; omega
def tNil:TA:=fun _ H Q=>Q [] H
def tCons (ta:TE) (tr:TA):TA:=fun σ H Q=>ta σ H fun x H1=>tr σ H1 fun xs H2=>Q (x :: xs) H2
section
variable {X:Cx} {e:Expr} {es:List Expr} {te:TE} {t:TA} {pos:Pos}
theorem pa_nil:PA X [] tNil:=fun _ _ _ _ H Q I h=>Calls.spliced_nil ⟨[],H,I,.nil,h⟩
theorem pa_cons (ha:PE X e te) (hr:PA X es t) (hs:starEach (e :: es) X.env=(false,eval e X.env) :: starEach es X.env:=by rfl):PA X (e :: es) (tCons te t):=by
 intro pos pins s σ H Q I h
 rw [hs]
 show wpAny _ _ (spliced ((false,eval e X.env) :: backTo pos (starEach es X.env))) _ _ s
 refine Calls.spliced_cons (thn (ha pins s σ H _ I h) fun u s1 ⟨x,H1,I1,r1,q1⟩=>?_)
 exact thn (hr pos pins s1 σ H1 _ I1 q1) fun us s2 ⟨xs,H2,I2,r2,q2⟩=>⟨x :: xs,H2,I2,.cons r1 r2,q2⟩
def tTup (t:TA):TE:=fun σ H Q=>t σ H fun xs H1=>xs.length<=sizeLine/\∀ p,H1 p=none->Q (.ref p) (upd H1 p (.tup xs))
def tLst (t:TA):TE:=fun σ H Q=>t σ H fun xs H1=>xs.length<=sizeLine/\∀ p,H1 p=none->Q (.ref p) (upd H1 p (.lst xs))
theorem pe_tup {x1} (h:PA X es t):PE X (.Tuple es x1 pos) (tTup t):=by
 intro pins s σ H Q I hq
 refine wpAny_Tuple_spliced (thn (h pos pins s σ H _ I hq) fun us s1 ⟨xs,H1,I1,r,z,q⟩=>⟨by rw [<- r.length]; exact z,?_⟩)
 have hf:H1 s1.heap.objs.size=none:=I1.hok.fresh (Nat.le_refl _)
 refine ⟨.ref s1.heap.objs.size,upd H1 s1.heap.objs.size (.tup xs),I1.laid (t':=s1.toks) (fun b u e=>Heap.get?_push_of_some _ e) (Nat.le_refl _) ?_,rfl,q _ hf⟩
 exact ⟨z,us,r,⟨_,Heap.get?_push_size _ rfl,rfl,_,rfl⟩⟩
theorem pe_lst (h:PA X es t):PE X (.List es pos) (tLst t):=by
 intro pins s σ H Q I hq
 refine wpAny_List_spliced (thn (h pos pins s σ H _ I hq) fun us s1 ⟨xs,H1,I1,r,z,q⟩=>⟨by rw [<- r.length]; exact z,?_⟩)
 have hf:H1 s1.heap.objs.size=none:=I1.hok.fresh (Nat.le_refl _)
 refine ⟨.ref s1.heap.objs.size,upd H1 s1.heap.objs.size (.lst xs),I1.laid (t':=s1.toks) (fun b u e=>Heap.get?_push_of_some _ e) (Nat.le_refl _) ?_,rfl,q _ hf⟩
 exact ⟨z,us,0,r,Heap.get?_push_size _ rfl⟩
end
abbrev Sp:=List V->Hp->VK->XK->Prop
abbrev CXT:=List Env->Hp->Shared->XK->Value->Shared->Prop
structure Env0 (P:Program) (w:World) (K:PySem.W.Frag) (mg:Str->Option Value) (base:Heap) (A:Around) (outer:List Env) (s:Shared) (H:Hp):Prop where
 frames:A.frames=some outer
 mod:Mod K mg base
 bs:∀ b o,base.get? b=some o->s.heap.get? b=some o/\H b=none
 bsz:base.objs.size<=s.heap.objs.size
 funs:s.heap.FunFrames base outer
 frf:∀ b ∈ frs outer,H b=none
 hok:HOk P w H s.heap
 bare:AllBare s.gens
def CE (outer:List Env) (P:Program) (w:World) (H:Hp) (s:Shared) (Q:VK) (u:Value) (s':Shared):Prop:=
 ∃ v H',s'.os=s.os/\AllBare s'.gens/\Un (frs outer) [] H H' s.heap s'.heap/\HOk P w H' s'.heap/\RelV v u/\Q v H'
def CR (CX:CXT) (outer:List Env) (P:Program) (w:World) (H:Hp) (s:Shared) (Q:VK) (E:XK) (r:Result) (s':Shared):Prop:=
 match r with
 | .ok (.ret u)=>CE outer P w H s Q u s'
 | .ok _=>False
 | .error e=>CX outer H s E e s'
structure FnOk (P:Program) (w:World) (K:PySem.W.Frag) (mg:Str->Option Value) (base:Heap) (CX:CXT) (k:Nat) (f:Addr) (fd:FuncData) (ps:List Str) (sp:Sp):Prop where
 len:∀ vs H Q E,sp vs H Q E->vs.length=ps.length
 run:∀ (A:Around) (outer:List Env) (s:Shared) (H:Hp) (args:Args) (us:List Value) (vs:List V) (Q:VK) (E:XK),Room k A->Env0 P w K mg base A outer s H->BindsTo s fd args (ps.zip us)->Vals vs us->sp vs H Q E ->
  codeAny (model P w) A (.call (.ref f) args) (CR CX outer P w H s Q E) s
theorem Env0.make {P:Program} {w:World} {K:PySem.W.Frag} {mg:Str->Option Value} {base:Heap} {A:Around} {outer:List Env} {s:Shared} {H:Hp} (e:Env0 P w K mg base A outer s H) (C:Addr) (us:List Value) (kw:List (Str × Value)) :
 Env0 P w K mg base (A.under (.builtin "type.__call__" ⟨.ref C :: us,kw⟩)) outer s H:=⟨by first | exact e.frames | (simpa [Around.under,Code.envs,Code.isFrame,pushEnvs] using e.frames),e.mod,e.bs,e.bsz,e.funs,e.frf,e.hok,e.bare⟩
section
variable {X:Cx} {pins:List (Addr × Obj)} {σ:St} {H:Hp} {s s':Shared}
theorem Inv.env0 (I:Inv X pins σ H s):Env0 X.prog X.w X.K X.mg X.base X.A X.stack s H:=
 ⟨I.ok.frames,I.ok.mod,I.bs,Nat.le_trans I.ok.bsz I.sz,I.stack,I.stkFree,I.hok,I.bare⟩
theorem Inv.after {Q:VK} {u:Value} (I:Inv X pins σ H s) (h:CE X.stack X.prog X.w H s Q u s'):EP X pins σ Q u s':=by
 obtain ⟨v,H',os,bare,un,hok,r,q⟩:=h
 obtain ⟨hh,g,d,t,os'⟩:=s'
 obtain rfl:os'=s.os:=os
 exact ⟨v,H',I.call (h':=hh) (g':=g) (d':=d) (t':=t) (ch:=[]) un hok bare (fun b z=>absurd z (by simp)),r,q⟩
end
def tCall (sp:Sp) (dvs:List V) (E:XK) (t:TA):TE:=fun σ H Q=>t σ H fun vs H1=>sp (vs ++ dvs) H1 Q E
def tMeth (C:Addr) (m:Str) (sp:Sp) (dvs:List V) (E:XK) (ta:TE) (t:TA):TE:=fun σ H Q=>ta σ H fun x H1=>∃ a dx fs,x = .ref a/\H1 a=some (.ins C dx fs)/\fs.lookup m=none /\
 t σ H1 fun vs H2=>sp (x :: (vs ++ dvs)) H2 Q E
def tMake (C:Addr) (sp:Sp) (dvs:List V) (E:XK) (t:TA):TE:=fun σ H Q=>t σ H fun vs H1=>∀ x dx,H1 x=none->H1 dx=none->dx ≠ x ->
 sp (.ref x :: (vs ++ dvs)) (upd (upd H1 dx (.own x)) x (.ins C dx [])) (fun v H2=>v = .non/\Q (.ref x) H2) E
def Binds (K:PySem.W.Frag) (fd:FuncData) (ps:List Str) (ds:List Value):Prop:=
 ∀ (s:Shared) (us:List Value),K.In s.heap->(us ++ ds).length=ps.length->BindsTo s fd ⟨us,[]⟩ (ps.zip (us ++ ds))
theorem Binds.all {K:PySem.W.Frag} {fd:FuncData} {ps:List Str} (h:∀ us:List Value,us.length=ps.length->bindArgs fd ⟨us,[]⟩ = pure (ps.zip us)):Binds K fd ps []:=fun s us _ hl=>by
 rw [List.append_nil] at hl ⊢
 exact .of_eq (h us hl)
def Passes (CX:CXT) (X:Cx) (E:XK):Prop:=∀ (pins:List (Addr × Obj)) (σ:St) (H:Hp) (s:Shared) (e:Value) (s':Shared),Inv X pins σ H s->CX X.stack H s E e s'->X.xe e s'
section
variable {X:Cx} {CX:CXT} {k:Nat} {f C:Addr} {fd:FuncData} {ps:List Str} {sp:Sp} {dvs:List V} {ds:List Value} {E:XK} {x m:Str} {p pos apos:Pos} {e o:Expr} {es:List Expr} {ta:TE} {t:TA}
theorem run_fn {pins:List (Addr × Obj)} {σ:St} {H:Hp} {s:Shared} {Q:VK} {us:List Value} {vs:List V} (F:FnOk X.prog X.w X.K X.mg X.base CX k f fd ps sp) (hr:Room k X.A) (hb:Binds X.K fd ps ds) (hd:Vals dvs ds) (hx:Passes CX X E)
 (I:Inv X pins σ H s) (r:Vals vs us) (h:sp (vs ++ dvs) H Q E):wpAny (model X.prog X.w) X.A (call (.ref f) us) (EP X pins σ Q) X.xe s:=by
 have r2:Vals (vs ++ dvs) (us ++ ds):=r.append hd
 have hl:(us ++ ds).length=ps.length:=by rw [<- r2.length]; exact F.len _ _ _ _ h
 refine wpAny_call (codeAny_mono (F.run X.A X.stack s H ⟨us,[]⟩ (us ++ ds) (vs ++ dvs) Q E hr I.env0 (hb s us I.kIn hl) r2 h) fun r s' hq=>?_)
 cases r with
 | error e=>exact hx pins σ H s e s' I hq
 | ok fl=>
  cases fl with
  | ret u=>exact I.after hq
  | next=>exact False.elim hq
  | brk=>exact False.elim hq
  | cont=>exact False.elim hq
theorem pe_call (F:FnOk X.prog X.w X.K X.mg X.base CX k f fd ps sp) (hr:Room k X.A) (hg:Gl X x) (hm:X.mg x=some (.ref f)) (hk:PySem.W.keepIn X.K (.ref f)=true) (hb:Binds X.K fd ps ds) (hd:Vals dvs ds) (hx:Passes CX X E)
 (ha:PA X (e :: es) t) (hdb:(x == ("__debug__" : Str))=false:=by decide) (he:starEach (e :: es) X.env=(false,eval e X.env) :: starEach es X.env:=by rfl) (hpl:(backTo pos (starEach es X.env)).any (·.1)=false:=by rfl) :
 PE X (.Call (.Name x p) (e :: es) [] pos) (tCall sp dvs E t):=by
 intro pins s σ H Q I h
 refine wpAny_Call_Name_kw (ld_glob I hg hm ?_ hdb)
 refine PySem.W.callWith_K (h₀:=X.base) I.ok.mod.kin hk (thn (ha pos pins s σ H _ I h) fun us s1 ⟨vs,H1,I1,r,q⟩=>⟨I1.kIn,?_⟩) he hpl
 exact run_fn F hr hb hd hx I1 r q
theorem pe_meth {pl:Sem Bool} (he:PE X o ta) (c:Cls X.K C) (hm:Meth X.K C m f) (F:FnOk X.prog X.w X.K X.mg X.base CX k f fd ps sp) (hr:Room k X.A) (hb:Binds X.K fd ps ds) (hd:Vals dvs ds) (hx:Passes CX X E) (ha:PA X (e :: es) t)
 (hst:starEach (e :: es) X.env=(false,eval e X.env) :: starEach es X.env:=by rfl) (hpl:(backTo pos (starEach es X.env)).any (·.1)=false:=by rfl)
 (ht:eval (.Call (.Attribute o m apos) (e :: es) [] pos) X.env=(do
  let ov <- eval o X.env
  standAt apos.atName
  let (f,first) <- holding [ov] (getMethod ov m pl)
  callWith pos f first (backTo pos (starEach (e :: es) X.env)) (backToKw pos (keywordEach [] X.env))):=by rfl) :
 PE X (.Call (.Attribute o m apos) (e :: es) [] pos) (tMeth C m sp dvs E ta t):=by
 intro pins s σ H Q I h
 refine PySem.W.methodCall_KW (pl:=pl) (thn (he pins s σ H _ I h) fun u s1 ⟨x,H1,I1,rx,a,dx,fs,ex,ea,l,q⟩=>?_) ht
 subst ex
 obtain rfl:u=Value.ref a:=rx
 refine getmeth_ok I1 ea c hm l ?_
 refine PySem.W.callWith_K (first:=[.ref a]) (h₀:=X.base) I.ok.mod.kin hm.kp (thn (ha pos pins s1 σ H1 _ I1 q) fun us s2 ⟨vs,H2,I2,r,q2⟩=>⟨I2.kIn,?_⟩) hst hpl
 exact run_fn (us:=.ref a :: us) (vs:=.ref a :: vs) F hr hb hd hx I2 (.cons rfl r) q2
theorem pe_meth0 {pl:Sem Bool} (he:PE X o ta) (c:Cls X.K C) (hm:Meth X.K C m f) (F:FnOk X.prog X.w X.K X.mg X.base CX k f fd ps sp) (hr:Room k X.A) (hb:Binds X.K fd ps ds) (hd:Vals dvs ds) (hx:Passes CX X E)
 (ht:eval (.Call (.Attribute o m apos) [] [] pos) X.env=(do
  let ov <- eval o X.env
  standAt apos.atName
  let (f,first) <- holding [ov] (getMethod ov m pl)
  callWith pos f first (backTo pos (starEach [] X.env)) (backToKw pos (keywordEach [] X.env))):=by rfl) :
 PE X (.Call (.Attribute o m apos) [] [] pos) (tMeth C m sp dvs E ta tNil):=by
 intro pins s σ H Q I h
 refine PySem.W.methodCall_KW (pl:=pl) (thn (he pins s σ H _ I h) fun u s1 ⟨x,H1,I1,rx,a,dx,fs,ex,ea,l,q⟩=>?_) ht
 subst ex
 obtain rfl:u=Value.ref a:=rx
 refine getmeth_ok I1 ea c hm l ?_
 exact PySem.W.callWith_K0 (first:=[.ref a]) I1.kIn hm.kp (run_fn (us:=[.ref a]) (vs:=[.ref a]) F hr hb hd hx I1 (.cons rfl .nil) q)
structure Mk (K:PySem.W.Frag) (C f:Addr):Prop where
 makes:PySem.W.makesIn K C=true
 init:PySem.W.findIn K (.ref C) "__init__" = some (some (.ref f))
 fn:PySem.W.isFn K (.ref f)=true
 kp:PySem.W.keepIn K (.ref C)=true
theorem run_make {pins:List (Addr × Obj)} {σ:St} {H:Hp} {s:Shared} {Q:VK} {us:List Value} {vs:List V} (M:Mk X.K C f) (F:FnOk X.prog X.w X.K X.mg X.base CX k f fd ps sp) (hr:Room (k + 1) X.A) (hb:Binds X.K fd ps ds) (hd:Vals dvs ds)
 (hx:Passes CX X E) (I:Inv X pins σ H s) (r:Vals vs us)
 (h:∀ x dx,H x=none->H dx=none->dx ≠ x->sp (.ref x :: (vs ++ dvs)) (upd (upd H dx (.own x)) x (.ins C dx [])) (fun v H2=>v = .non/\Q (.ref x) H2) E) :
 wpAny (model X.prog X.w) X.A (call (.ref C) us) (EP X pins σ Q) X.xe s:=by
 have hq:=h (s.heap.objs.size + 1) s.heap.objs.size (I.hok.fresh (Nat.le_succ _)) (I.hok.fresh (Nat.le_refl _)) (Nat.ne_of_lt (Nat.lt_succ_self _))
 have I2:=Inv.made (C:=C) I
 have r2:Vals (V.ref (s.heap.objs.size + 1) :: (vs ++ dvs)) (Value.ref (s.heap.objs.size + 1) :: (us ++ ds)):=.cons rfl (r.append hd)
 have hl:(Value.ref (s.heap.objs.size + 1) :: us ++ ds).length=ps.length:=by
  have e:=r2.length
  rw [F.len _ _ _ _ hq] at e
  exact e.symm
 refine wpAny_call (make_map (f:=f) I.kIn M.makes M.init (beq_iff_eq.mp M.fn) (codeAny_mono (F.run _ X.stack _ _ ⟨Value.ref (s.heap.objs.size + 1) :: us,[]⟩ (Value.ref (s.heap.objs.size + 1) :: (us ++ ds)) _ _ E (hr.make C us [])
  (I2.env0.make C us []) (hb _ (Value.ref (s.heap.objs.size + 1) :: us) I2.kIn hl) r2 hq) fun r s' hq'=>?_))
 cases r with
 | error e=>exact hx pins σ _ _ e s' I2 hq'
 | ok fl=>
  cases fl with
  | ret u=>
   obtain ⟨v,H',I3,rv,ev,q3⟩:=I2.after hq'
   subst ev
   exact ⟨rv,⟨V.ref (s.heap.objs.size + 1),H',I3,rfl,q3⟩⟩
  | next=>exact False.elim hq'
  | brk=>exact False.elim hq'
  | cont=>exact False.elim hq'
theorem pe_make (M:Mk X.K C f) (F:FnOk X.prog X.w X.K X.mg X.base CX k f fd ps sp) (hr:Room (k + 1) X.A) (hg:Gl X x) (hm:X.mg x=some (.ref C)) (hb:Binds X.K fd ps ds) (hd:Vals dvs ds) (hx:Passes CX X E)
 (ha:PA X (e :: es) t) (hdb:(x == ("__debug__" : Str))=false:=by decide) (he:starEach (e :: es) X.env=(false,eval e X.env) :: starEach es X.env:=by rfl) (hpl:(backTo pos (starEach es X.env)).any (·.1)=false:=by rfl) :
 PE X (.Call (.Name x p) (e :: es) [] pos) (tMake C sp dvs E t):=by
 intro pins s σ H Q I h
 refine wpAny_Call_Name_kw (ld_glob I hg hm ?_ hdb)
 refine PySem.W.callWith_K (h₀:=X.base) I.ok.mod.kin M.kp (thn (ha pos pins s σ H _ I h) fun us s1 ⟨vs,H1,I1,r,q⟩=>⟨I1.kIn,?_⟩) he hpl
 exact run_make M F hr hb hd hx I1 r q
end
structure FnScope (N P:List Str) (sc:Scope):Prop where
 kind:sc.kind = .function
 co:sc.isCoroutine=false
 gen:sc.isGenerator=false
 nd:N.Nodup
 pre:N.take P.length=P
 par:∀ x ∈ P,sc.names.lookup x=some .local \/ sc.names.lookup x=some .cell
 nofree:∀ y ∈ sc.names,y.2 ≠ .free
theorem bindL_out {kindOf:Str->Option NameKind} {x:Str}:∀ {binds:List (Str × Value)} {m:Str->Option Value},(∀ v,(x,v) ∉ binds)->bindL kindOf binds m x=m x
 | [],_,_=>rfl
 | (n,v) :: r,m,h=>by
  unfold bindL
  rw [bindL_out fun w hw=>h w (List.mem_cons_of_mem _ hw)]
  split
  . have:x ≠ n:=by rintro rfl; exact h v List.mem_cons_self
    simp [this]
  . rfl
theorem bindC_out {kindOf:Str->Option NameKind} {x:Str}:∀ {binds:List (Str × Value)} {m:Str->Option Value},(∀ v,(x,v) ∉ binds)->bindC kindOf binds m x=m x
 | [],_,_=>rfl
 | (n,v) :: r,m,h=>by
  unfold bindC
  rw [bindC_out fun w hw=>h w (List.mem_cons_of_mem _ hw)]
  split
  . rfl
  . have:x ≠ n:=by rintro rfl; exact h v List.mem_cons_self
    simp [this]
theorem bindL_get {kindOf:Str->Option NameKind} {x:Str} {v:Value}:∀ {P:List Str} {vs:List Value} {i:Nat} {m:Str->Option Value},P.Nodup->P[i]? = some x->vs[i]? = some v->kindOf x=some .local ->
 bindL kindOf (P.zip vs) m x=some v
 | [],_,_,_,_,h,_,_=>by simp at h
 | _ :: _,[],_,_,_,_,h,_=>by simp at h
 | p :: P,w :: vs,0,m,nd,h1,h2,hk=>by
  simp at h1 h2; subst h1; subst h2
  show bindL kindOf ((p,w) :: P.zip vs) m p=_
  unfold bindL
  rw [bindL_out fun v hv=>(List.nodup_cons.mp nd).1 (List.of_mem_zip hv).1,if_pos hk]
  simp
 | p :: P,w :: vs,i + 1,m,nd,h1,h2,hk=>by
  show bindL kindOf ((p,w) :: P.zip vs) m x=_
  unfold bindL
  exact bindL_get (i:=i) (List.nodup_cons.mp nd).2 (by simpa using h1) (by simpa using h2) hk
theorem bindC_get {kindOf:Str->Option NameKind} {x:Str} {v:Value}:∀ {P:List Str} {vs:List Value} {i:Nat} {m:Str->Option Value},P.Nodup->P[i]? = some x->vs[i]? = some v->kindOf x ≠ some .local ->
 bindC kindOf (P.zip vs) m x=some v
 | [],_,_,_,_,h,_,_=>by simp at h
 | _ :: _,[],_,_,_,_,h,_=>by simp at h
 | p :: P,w :: vs,0,m,nd,h1,h2,hk=>by
  simp at h1 h2; subst h1; subst h2
  show bindC kindOf ((p,w) :: P.zip vs) m p=_
  unfold bindC
  rw [bindC_out fun v hv=>(List.nodup_cons.mp nd).1 (List.of_mem_zip hv).1,if_neg hk]
  simp
 | p :: P,w :: vs,i + 1,m,nd,h1,h2,hk=>by
  show bindC kindOf ((p,w) :: P.zip vs) m x=_
  unfold bindC
  exact bindC_get (i:=i) (List.nodup_cons.mp nd).2 (by simpa using h1) (by simpa using h2) hk
def start (N:List Str) (vs:List V):St:=vs.map some ++ List.replicate (N.length - vs.length) none
def cxOf (CX:CXT) (P:Program) (w:World) (K:PySem.W.Frag) (mg:Str->Option Value) (base:Heap) (N:List Str) (qual:Str) (scope:Scope) (f:Addr) (cd:Value) (A:Around) (outer:List Env) (s:Shared) (H:Hp) (E:XK):Cx where
 prog:=P
 w:=w
 K:=K
 mg:=mg
 base:=base
 A:=A.deeper (envOfC qual scope s.heap.objs.size f cd)
 N:=N
 s_0:=s
 H_0:=H
 env:=envOfC qual scope s.heap.objs.size f cd
 outer:=outer
 stack:=envOfC qual scope s.heap.objs.size f cd :: outer
 ex:=[]
 calm:=true
 fn:=fun _=>true
 pn:=[]
 xe:=fun e s'=>wpAny (model P w) (A.deeper (envOfC qual scope s.heap.objs.size f cd)) (leaving (envOfC qual scope s.heap.objs.size f cd) e) (fun _ s''=>CX outer H s E e s'') (fun e' s''=>CX outer H s E e' s'') s'
theorem cell_has {sc:Scope} {n:Nat} {x:Str} (h:sc.names.lookup x=some .cell):∃ c,(cellsFrom n sc.names []).lookup x=some c:=by
 have q:=PySem.W.cellsFrom_some sc.names n [] (.inl h)
 exact Option.isSome_iff_exists.mp q
theorem inv_start {CX:CXT} {P:Program} {w:World} {K:PySem.W.Frag} {mg:Str->Option Value} {base:Heap} {N ps:List Str} {qual:Str} {scope:Scope} {f:Addr} {cd:Value} {A:Around} {outer:List Env} {s s1:Shared} {H:Hp} {E:XK} {us:List Value} {vs:List V}
 (S:FnScope N ps scope) (hd:A.handled=none) (e0:Env0 P w K mg base A outer s H) (hl:vs.length=ps.length) (r:Vals vs us)
 (x:InCallC s s.heap.objs.size (bindL (envOfC qual scope s.heap.objs.size f cd).kindOf (ps.zip us) fun _=>none) (cellsFrom (s.heap.objs.size + 1) scope.names []) (bindC (envOfC qual scope s.heap.objs.size f cd).kindOf (ps.zip us) fun _=>none) s1) :
 Inv (cxOf CX P w K mg base N qual scope f cd A outer s H E) [] (start N vs) H s1:=by
 have hpl:ps.length<=N.length:=by have:=congrArg List.length S.pre; rw [List.length_take] at this; omega
 obtain ⟨h1,tk,rfl,hk⟩:=x.done
 have noA:∀ b:Addr,b ∉ (cxOf CX P w K mg base N qual scope f cd A outer s H E).ex:=fun b z=>absurd (show b ∈ ([]:List Addr) from z) (by simp)
 refine ⟨⟨e0.mod,S.kind,rfl,rfl,Nat.le_refl _,fun y z c h1 h2=>?_,fun y hy=>?_,fun y c _ h=>?_,fun _=>hd,Around.frames_deeper e0.frames,.inr ⟨rfl,rfl⟩,fun b z=>absurd z (noA b),e0.bs,e0.bsz,fun b _ _=>noA b,fun b z=>absurd z (noA b),e0.funs,e0.frf⟩,
  rfl,e0.bare,Un.kept hk,⟨_,x.toInCall.ns,fun i y v h1 h2 h3=>?_⟩,fun y c h=>⟨_,x.cell y c h⟩,e0.hok.fresh (Nat.le_refl _),fun y c h=>?_,fun p hp=>absurd (show p ∈ ([]:List (Addr × Obj)) from hp) (by simp),e0.hok.kept hk,?_⟩
 . exact name_of_addr x.apart (PySem.mem_of_lookup h1) (PySem.mem_of_lookup h2)
 . have hy:scope.names.lookup y=some .cell \/ scope.names.lookup y=some .free:=hy
   rcases hy with hy | hy
   . exact cell_has hy
   . exact absurd rfl (S.nofree _ (PySem.mem_of_lookup hy))
 . exact Nat.le_of_lt (x.above y c (PySem.mem_of_lookup h))
 . have hi:i < vs.length:=by
    unfold start at h2
    by_cases hi:i < vs.length
    . exact hi
    . rw [List.getElem?_append_right (by simpa using hi)] at h2
      rw [List.getElem?_replicate] at h2
      split at h2 <;> cases h2
   have ha:vs[i]? = some v:=by
    unfold start at h2
    rw [List.getElem?_append_left (by simpa using hi),List.getElem?_map] at h2
    cases e:vs[i]? with
    | none=>rw [e] at h2; cases h2
    | some a=>rw [e] at h2; cases h2; rfl
   obtain ⟨u,hu,rv⟩:=r.get ha
   have hp:ps[i]? = some y:=by
    rw [<- S.pre,List.getElem?_take_of_lt (by omega)]; exact h1
   have ndP:ps.Nodup:=by rw [<- S.pre]; exact S.nd.sublist (List.take_sublist _ _)
   refine ⟨u,rv,?_⟩
   rcases S.par y (List.mem_of_getElem? hp) with k | k
   . exact .inl ⟨k,bindL_get ndP hp hu k⟩
   . obtain ⟨c,e⟩:=cell_has (n:=s.heap.objs.size + 1) k
     refine .inr ⟨.inl k,c,e,?_⟩
     have q:=x.cell y c e
     rw [bindC_get ndP hp hu (by show scope.names.lookup y ≠ _; rw [k]; decide)] at q
     exact q
 . exact e0.hok.fresh (Nat.le_of_lt (x.above y c (PySem.mem_of_lookup h)))
 . unfold start
   show _=N.length
   rw [List.length_append,List.length_map,List.length_replicate]
   omega
theorem fn_of {CX:CXT} {P:Program} {w:World} {K:PySem.W.Frag} {mg:Str->Option Value} {base:Heap} {k:Nat} {f:Addr} {name qual:Str} {params:Arguments} {body:List Stmt} {scope:Scope} {dV kV doc pm cdv ct oc:Value} {an od:Option Addr}
 {osl:Array (Option Value)} {N ps:List Str} {sp:Sp} (lk:K.lookup f=some ⟨oc,od,.func (PySem.W.fnOf name qual params body scope dV kV doc pm an cdv ct),osl⟩) (hcd:PySem.W.codeIn K cdv qual=true) (S:FnScope N ps scope)
 (len:∀ vs H Q E,sp vs H Q E->vs.length=ps.length)
 (hbody:∀ (A:Around) (outer:List Env) (s:Shared) (H:Hp) (vs:List V) (Q:VK) (E:XK),Room k (A.deeper (envOfC qual scope s.heap.objs.size f cdv))->sp vs H Q E ->
  ∃ t,PSs (cxOf CX P w K mg base N qual scope f cdv A outer s H E) body t/\t { nx:=fun _ H'=>Q .non H',rt:=Q } (start N vs) H) :
 FnOk P w K mg base CX (k + 1) f (PySem.W.fnOf name qual params body scope dV kV doc pm an cdv ct) ps sp:=by
 refine ⟨len,fun A outer s H args us vs Q E hr e0 hb r hsp=>?_⟩
 have hl:=len _ _ _ _ hsp
 have KX:K.In s.heap:=e0.mod.kin.keeps fun b o e=>(e0.bs b o e).1
 have lim:s.heap.NoLimit:=e0.mod.nolimit.keeps fun b o e=>(e0.bs b o e).1
 have hkind:∀ y ∈ ps.zip us,scope.names.lookup y.1=some .local \/ (scope.names.lookup y.1=some .cell/\((cellsFrom (s.heap.objs.size + 1) scope.names []).lookup y.1).isSome=true):=fun ⟨n,v⟩ hy=>by
  rcases S.par n (List.of_mem_zip hy).1 with q | q
  . exact .inl q
  . exact .inr ⟨q,PySem.W.cellsFrom_some _ _ _ (.inl q)⟩
 refine codeAny_call_function hr.depth (KX _ _ lk) rfl S.co S.gen rfl (PySem.W.codeRec_of KX hcd) (hb _ _ _ _ ?_)
 refine wpAny_newFunctionEnv_cells S.kind hkind fun env he s1 x=>?_
 subst he
 refine ⟨lim.keeps x.toInCall.keep,codeAny_func ?_⟩
 obtain ⟨t,ht,hq⟩:=hbody A outer s H vs Q E (hr.deeper _) hsp
 have I:Inv (cxOf CX P w K mg base N qual scope f cdv A outer s H E) [] (start N vs) H s1:=inv_start S hr.hd e0 hl r x
 refine wpAny_mono (ht [] s1 (start N vs) H _ I hq) (fun fl s' hs=>?_) fun e s' hs=>hs
 have fin:∀ {σ':St} {H':Hp} {v:V} {u:Value},Inv (cxOf CX P w K mg base N qual scope f cdv A outer s H E) [] σ' H' s'->RelV v u->Q v H'->CE outer P w H s Q u s':=
  fun {σ' H' v u} J rv q=>⟨v,H',J.os,J.bare,J.base,J.hok,rv,q⟩
 cases fl with
 | ret u=>
  obtain ⟨v,σ',H',J,rv,q⟩:=hs
  exact fin J rv q
 | next=>
  obtain ⟨σ',H',J,q⟩:=hs
  exact fin (v:=V.non) (u:=Value.none) J rfl q
 | brk=>
  obtain ⟨_,_,_,q⟩:=hs
  exact False.elim q
 | cont=>
  obtain ⟨_,_,_,q⟩:=hs
  exact False.elim q
end L2
namespace L2
open PySem PySem.Spec PyProof.Rows
section
variable {X:Cx} {x:Str} {p pos:Pos} {e:Expr} {es:List Expr} {t:TA} {id T:String} {r:List V->Hp->VK->Prop}
def tCB (r:List V->Hp->VK->Prop) (t:TA):TE:=fun σ H Q=>t σ H fun vs H1=>r vs H1 Q
theorem pe_callB (hc:CallR X (.builtin id) r) (hg:Gl X x) (hm:X.mg x=none) (hv:bootBuiltins x=some (.builtin id)) (ha:PA X (e :: es) t) (hn:x ≠ "__name__" := by decide) (hdb:(x == ("__debug__" : Str))=false:=by decide)
 (he:starEach (e :: es) X.env=(false,eval e X.env) :: starEach es X.env:=by rfl) (hpl:(backTo pos (starEach es X.env)).any (·.1)=false:=by rfl):PE X (.Call (.Name x p) (e :: es) [] pos) (tCB r t):=by
 intro pins s σ H Q I h
 refine wpAny_Call_Name_kw (ld_blt I hg hm hv ?_ hn hdb)
 exact PyProof.Rows.callWith_builtin1 (thn (ha pos pins s σ H _ I h) fun us s1 ⟨vs,H1,I1,r1,q1⟩=>hc pins s1 σ H1 vs us Q I1 r1 q1) he hpl
theorem pe_callTy (hc:CallR X (.type T) r) (hg:Gl X x) (hm:X.mg x=none) (hv:bootBuiltins x=some (.type T)) (ha:PA X (e :: es) t) (hn:x ≠ "__name__" := by decide) (hdb:(x == ("__debug__" : Str))=false:=by decide)
 (he:starEach (e :: es) X.env=(false,eval e X.env) :: starEach es X.env:=by rfl) (hpl:(backTo pos (starEach es X.env)).any (·.1)=false:=by rfl):PE X (.Call (.Name x p) (e :: es) [] pos) (tCB r t):=by
 intro pins s σ H Q I h
 refine wpAny_Call_Name_kw (ld_blt I hg hm hv ?_ hn hdb)
 exact PyProof.Rows.callWith_type1 (thn (ha pos pins s σ H _ I h) fun us s1 ⟨vs,H1,I1,r1,q1⟩=>hc pins s1 σ H1 vs us Q I1 r1 q1) he hpl
end
end L2
namespace L2
open PySem PySem.Spec PyProof.Rows
def ixN (n:Nat) (i:Int):Option Nat:=if 0<=i then (if i < n then some i.toNat else none) else if -(n:Int)<=i then some (i + n).toNat else none
def atI {α:Type} (xs:List α) (i:Int):Option α:=(ixN xs.length i).bind fun j=>xs[j]?
theorem ixN_seq {n:Nat} {i:Int} {j:Nat} (h:ixN n i=some j):seqIndex? i n=some j/\j < n /\ -(n:Int)<=i/\i < n:=by
 unfold ixN at h
 by_cases h0:0<=i
 . rw [if_pos h0] at h
   by_cases h1:i < n
   . rw [if_pos h1] at h
     have e:i.toNat=j:=Option.some.inj h
     exact ⟨by rw [seqIndex_of h0 h1,e],by omega,by omega,h1⟩
   . rw [if_neg h1] at h; cases h
 . rw [if_neg h0] at h
   by_cases h1 : -(n:Int)<=i
   . rw [if_pos h1] at h
     have e:(i + n).toNat=j:=Option.some.inj h
     exact ⟨by rw [seqIndex_neg (by omega) h1,e],by omega,h1,by omega⟩
   . rw [if_neg h1] at h; cases h
theorem atI_get {α:Type} {xs:List α} {i:Int} {v:α} (h:atI xs i=some v):∃ j,seqIndex? i xs.length=some j/\xs[j]? = some v/\j < xs.length /\ -(xs.length:Int)<=i/\i < xs.length:=by
 unfold atI at h
 cases e:ixN xs.length i with
 | none=>rw [e] at h; cases h
 | some j=>
  rw [e] at h
  obtain ⟨h1,h2,h3,h4⟩:=ixN_seq e
  exact ⟨j,h1,h,h2,h3,h4⟩
theorem atI_nat {α:Type} {xs:List α} {j:Nat} {v:α} (h:xs[j]? = some v):atI xs (j:Int)=some v:=by
 have hj:j < xs.length:=(List.getElem?_eq_some_iff.mp h).1
 have e:ixN xs.length (j:Int)=some j:=by
  unfold ixN
  rw [if_pos (by omega),if_pos (by omega)]; simp
 unfold atI; rw [e]; exact h
theorem atI_last {α:Type} (xs:List α) (v:α):atI (xs ++ [v]) (-1)=some v:=by
 have hl:(xs ++ [v]).length=xs.length + 1:=by simp
 have e:ixN (xs ++ [v]).length (-1)=some xs.length:=by
  unfold ixN
  rw [hl,if_neg (by decide),if_pos (by omega)]
  congr 1
  omega
 unfold atI
 rw [e]
 show (xs ++ [v])[xs.length]? = some v
 simp
def PlainIx (b:Expr):Prop:=∀ o i,subscripted b false o i=operate [o,i] (getItem o i)
def IxR (X:Cx) (r:R2):Prop:=
 ∀ (value slice:Expr) (pins:List (Addr × Obj)) (s:Shared) (σ:St) (H:Hp) (x y:V) (v u:Value) (Q:VK),Inv X pins σ H s->RelV x v->RelV y u->r x y H Q ->
  subscripted slice false v u=operate [v,u] (getItem v u)->wpAny (model X.prog X.w) X.A (subscriptTail value slice v u) (EP X pins σ Q) X.xe s
def MtR (X:Cx) (id:String) (r:V->List V->Hp->VK->Prop):Prop:=
 ∀ (pins:List (Addr × Obj)) (s:Shared) (σ:St) (H:Hp) (x:V) (xs:List V) (v:Value) (us:List Value) (Q:VK),Inv X pins σ H s->RelV x v->Vals xs us->r x xs H Q ->
  wpAny (model X.prog X.w) X.A (call (.builtin id) (v :: us)) (EP X pins σ Q) X.xe s
section
variable {X:Cx} {a b:Expr} {ta tb:TE} {pos:Pos}
theorem pe_ix {r:R2} (hr:IxR X r) (ha:PE X a ta) (hb:PE X b tb) (hs:PlainIx b):PE X (.Subscript a b pos) (tOp r ta tb):=by
 intro pins s σ H Q I h
 exact Subscript_ (binT ha hb I h fun v u s2 x y H2 I2 rx ry q=>hr a b pins s2 σ H2 x y v u Q I2 rx ry q (hs _ _))
def rIxL (K:PySem.W.Frag):R2:=fun x y H Q=>∃ p xs i v,x = .ref p/\y = .int i/\SqL K H p xs/\atI xs i=some v/\Q v H
def rIxT (K:PySem.W.Frag):R2:=fun x y H Q=>∃ p xs i v,x = .ref p/\y = .int i/\SqT K H p xs/\atI xs i=some v/\Q v H
theorem ix_list:IxR X (rIxL X.K):=by
 intro value slice pins s σ H x y v u Q I rx ry h hs
 obtain ⟨p,xs,i,z,rfl,rfl,hq,he,q⟩:=h
 cases rx
 obtain ⟨t,rfl⟩:=ry
 obtain ⟨its,r,pl,hz⟩:=I.list hq
 obtain ⟨j,h1,h2,h3,h4,h5⟩:=atI_get he
 obtain ⟨w,ew,rw'⟩:=r.get h2
 have hl:=r.length
 have hn:=line63
 have fin:EP X pins σ Q w s:=⟨z,H,I,rw',q⟩
 by_cases h0:0<=i
 . have hj:i.toNat=j:=by
    rw [seqIndex_of h0 h5] at h1
    exact Option.some.inj h1
   exact item_listR pl.isList h0 (by omega) (by rw [hj]; simpa using ew) fin hs
 . have hj:(i + (its.toArray.size:Int)).toNat=j:=by
    rw [seqIndex_neg (by omega) h4] at h1
    rw [List.size_toArray,<- hl]
    exact Option.some.inj h1
   exact subscriptTail_builtinR (x:=w) pl.isList.typeIs slot_list_getitem.lookup
    (wpAny_getItem_list_neg (Q:=fun r s'=>r=w/\EP X pins σ Q r s') pl.isList (by omega) (by rw [List.size_toArray] <;> omega) (by omega) (by rw [hj]; simpa using ew) ⟨rfl,fin⟩) hs
theorem ix_tup:IxR X (rIxT X.K):=by
 intro value slice pins s σ H x y v u Q I rx ry h hs
 obtain ⟨p,xs,i,z,rfl,rfl,hq,he,q⟩:=h
 cases rx
 obtain ⟨t,rfl⟩:=ry
 obtain ⟨its,r,pl,hz⟩:=I.tuple hq
 obtain ⟨j,h1,h2,h3,h4,h5⟩:=atI_get he
 obtain ⟨w,ew,rw'⟩:=r.get h2
 have hl:=r.length
 have hn:=line63
 have fin:EP X pins σ Q w s:=⟨z,H,I,rw',q⟩
 exact subscriptTail_builtinR (x:=w) pl.typeIs slot_tuple_getitem.lookup
  (getItem_tuple (j:=j) (Q:=fun r s'=>r=w/\EP X pins σ Q r s') pl (by omega) (by omega) (by rw [List.size_toArray,<- hl]; exact h1) (by simpa using ew) ⟨rfl,fin⟩) hs
def flatV:V->Bool
 | .non=>true
 | .bl _=>true
 | .int _=>true
 | .str _=>true
 | _=>false
def eqV:V->V->Bool
 | .non,.non=>true
 | .bl a,.bl b=>a == b
 | .bl a,.int b=>(if a then 1 else 0) == b
 | .int a,.bl b=>a == (if b then 1 else 0)
 | .int a,.int b=>a == b
 | .str a,.str b=>a == b
 | _,_=>false
theorem eqAt_V {A:Around} {s:Shared} {y x:V} {u v:Value} (ry:RelV y u) (rx:RelV x v) (fy:flatV y=true) (fx:flatV x=true):SeqAt.EqAt A s u v (eqV y x):=by
 cases y with
 | non=>
  cases ry
  cases x with
  | non=>cases rx; exact SeqAt.EqAt.same _
  | bl b=>cases rx; exact SeqAt.EqAt.none_bool b
  | int b=>obtain ⟨t,rfl⟩:=rx; exact SeqAt.EqAt.none_int b t
  | str b=>obtain ⟨t,rfl⟩:=rx; exact SeqAt.EqAt.none_str b t
  | _=>exact absurd (show false=true from fx) Bool.false_ne_true
 | bl a=>
  cases ry
  cases x with
  | non=>cases rx; exact SeqAt.EqAt.bool_none a
  | bl b=>cases rx; exact SeqAt.EqAt.bool_bool a b
  | int b=>obtain ⟨t,rfl⟩:=rx; exact SeqAt.EqAt.bool_int a b t
  | str b=>obtain ⟨t,rfl⟩:=rx; exact SeqAt.EqAt.bool_str a b t
  | _=>exact absurd (show false=true from fx) Bool.false_ne_true
 | int a=>
  obtain ⟨t',rfl⟩:=ry
  cases x with
  | non=>cases rx; exact SeqAt.EqAt.int_none a t'
  | bl b=>cases rx; exact SeqAt.EqAt.int_bool a t' b
  | int b=>obtain ⟨t,rfl⟩:=rx; exact SeqAt.EqAt.int_int a t' b t
  | str b=>obtain ⟨t,rfl⟩:=rx; exact SeqAt.EqAt.int_str a t' b t
  | _=>exact absurd (show false=true from fx) Bool.false_ne_true
 | str a=>
  obtain ⟨t',rfl⟩:=ry
  cases x with
  | non=>cases rx; exact SeqAt.EqAt.str_none a t'
  | bl b=>cases rx; exact SeqAt.EqAt.str_bool a t' b
  | int b=>obtain ⟨t,rfl⟩:=rx; exact SeqAt.EqAt.str_int a t' b t
  | str b=>obtain ⟨t,rfl⟩:=rx; exact SeqAt.EqAt.str_str a t' b t
  | _=>exact absurd (show false=true from fx) Bool.false_ne_true
 | _=>exact absurd (show false=true from fy) Bool.false_ne_true
def eqU (x:V) (u:Value):Bool:=match u with
 | .none=>eqV .non x
 | .bool b=>eqV (.bl b) x
 | .int i _=>eqV (.int i) x
 | .str z _=>eqV (.str z) x
 | _=>false
theorem eqU_of {x y:V} {u:Value} (r:RelV y u) (f:flatV y=true):eqU x u=eqV y x:=by
 cases y with
 | non=>cases r; rfl
 | bl b=>cases r; rfl
 | int i=>obtain ⟨t,rfl⟩:=r; rfl
 | str z=>obtain ⟨t,rfl⟩:=r; rfl
 | _=>exact absurd (show false=true from f) Bool.false_ne_true
theorem any_eqU {x:V}:∀ {xs:List V} {us:List Value},Vals xs us->xs.all flatV=true->us.any (eqU x)=xs.any fun y=>eqV y x
 | _,_,.nil,_=>rfl
 | y :: xs,u :: us,.cons r t,f=>by
  rw [List.all_cons,Bool.and_eq_true] at f
  rw [List.any_cons,List.any_cons,eqU_of r f.1,any_eqU t f.2]
theorem mem_eqAt {A:Around} {s:Shared} {x:V} {v:Value} (rx:RelV x v) (fx:flatV x=true):∀ {xs:List V} {us:List Value},Vals xs us->xs.all flatV=true->∀ u ∈ us,SeqAt.EqAt A s u v (eqU x u)
 | _,_,.nil,_=>fun u hu=>by cases hu
 | y :: xs,u :: us,.cons r t,f=>fun u' hu=>by
  rw [List.all_cons,Bool.and_eq_true] at f
  rcases List.mem_cons.mp hu with rfl | hu
  . rw [eqU_of r f.1]; exact eqAt_V r rx f.1 fx
  . exact mem_eqAt rx fx t f.2 u' hu
def inV (x:V) (xs:List V):Bool:=xs.any fun y=>eqV y x
def rIn (K:PySem.W.Frag) (neg:Bool):R2:=fun x y H Q=>∃ p xs,y = .ref p/\(SqL K H p xs \/ SqT K H p xs)/\flatV x=true/\xs.all flatV=true/\Q (.bl (if neg then !inV x xs else inV x xs)) H
theorem op_in_seq:OpR X (compareOp .In) (rIn X.K false):=by
 intro pins s σ H x y v u Q I rx ry h
 obtain ⟨p,xs,rfl,hq,fx,fs,q⟩:=h
 cases ry
 rcases hq with hq | hq
 . obtain ⟨its,r,pl,hz⟩:=I.list hq
   refine SeqAt.in_listAt (eqU x) pl.isList (fun w hw=>mem_eqAt rx fx r fs w (by simpa using hw)) ⟨.bl _,H,I,rfl,?_⟩
   rw [show its.toArray.any (eqU x)=its.any (eqU x) by simp,any_eqU r fs]
   exact q
 . obtain ⟨its,r,pl,hz⟩:=I.tuple hq
   refine SeqAt.in_tupleAt (eqU x) pl (fun w hw=>mem_eqAt rx fx r fs w (by simpa using hw)) ⟨.bl _,H,I,rfl,?_⟩
   rw [show its.toArray.any (eqU x)=its.any (eqU x) by simp,any_eqU r fs]
   exact q
theorem call_len_seq:CallR X (.builtin "len") (fun xs H Q=>∃ p ys,xs=[.ref p]/\(SqL X.K H p ys \/ SqT X.K H p ys)/\Q (.int ys.length) H):=by
 intro pins s σ H xs us Q I r h
 obtain ⟨p,ys,rfl,hq,q⟩:=h
 obtain ⟨u,rfl,rx⟩:=vals1 r
 cases rx
 have hn:=line63
 rcases hq with hq | hq
 . obtain ⟨its,r',pl,hz⟩:=I.list hq
   have hlen:=r'.length
   exact Calls.call_len_list pl.isList (by simp only [List.size_toArray] <;> omega) ⟨.int ys.length,H,I.tok _,⟨s.toks + 1,by rw [List.size_toArray,hlen]⟩,q⟩
 . obtain ⟨its,r',pl,hz⟩:=I.tuple hq
   have hlen:=r'.length
   exact len_tuple pl (by simp only [List.size_toArray] <;> omega) ⟨.int ys.length,H,I.tok _,⟨s.toks + 1,by rw [List.size_toArray,hlen]⟩,q⟩
theorem call_tuple_of:CallR X (.type "tuple") (fun xs H Q=>∃ p ys,xs=[.ref p]/\((SqL X.K H p ys/\∀ l,H l=none->Q (.ref l) (upd H l (.tup ys))) \/ (SqT X.K H p ys/\Q (.ref p) H))):=by
 intro pins s σ H xs us Q I r h
 obtain ⟨p,ys,rfl,h⟩:=h
 obtain ⟨u,rfl,rx⟩:=vals1 r
 cases rx
 rcases h with ⟨hq,q⟩ | ⟨hq,q⟩
 . obtain ⟨its,r',pl,hz⟩:=I.list hq
   have hlen:=r'.length
   refine call_tuple_list pl.isList (fun h' kp=>?_) (by simp only [List.size_toArray] <;> omega)
   have I1:Inv X pins σ H { s with heap:=h' }:=I.kept (t':=s.toks) kp
   have I2:Inv X pins σ (upd H h'.objs.size (.tup ys)) { s with heap:=h'.push { cls:=.type "tuple",data:=.seq its.toArray } }:=
    I1.laid (t':=s.toks) (fun b o e=>Heap.get?_push_of_some _ e) (Nat.le_refl _) (show ObjOk X.prog X.w _ _ _ (.tup ys) from ⟨hz,its,r',IsTup.new _ _⟩)
   exact ⟨.ref h'.objs.size,_,I2,rfl,q _ (I1.hok.fresh (Nat.le_refl _))⟩
 . obtain ⟨its,r',pl,hz⟩:=I.tuple hq
   exact call_tuple_same pl ⟨.ref p,H,I,rfl,q⟩
def tyV (K:PySem.W.Frag) (T:String) (x:V) (H:Hp):Prop:=match x with
 | .str _=>T = "str"
 | .int _=>T = "int"
 | .ref p=>(T = "list" /\ ∃ xs,SqL K H p xs) \/ (T = "tuple" /\ ∃ o,K.lookup p=some o/\o.cls = .type "tuple" /\ o.dict=none) \/
  (T = "dict" /\ ((∃ kvs,H p=some (.dK kvs)) \/ ∃ kvs,H p=some (.dT kvs))) \/ (T = "set" /\ ∃ S n,H p=some (.set S n))
 | _=>False
theorem tyV_is {pins:List (Addr × Obj)} {σ:St} {H:Hp} {s:Shared} {T:String} {x:V} {v:Value} (I:Inv X pins σ H s) (r:RelV x v) (ty:tyV X.K T x H) :
 s.TypeIs v T/\∀ a,v = .ref a->∃ ob,s.heap.get? a=some ob/\ob.dict=none:=by
 cases x with
 | str z=>
  obtain ⟨t,rfl⟩:=r
  cases (show T = "str" from ty)
  exact ⟨typeIs_str s z t,fun _ e=>nomatch e⟩
 | int i=>
  obtain ⟨t,rfl⟩:=r
  cases (show T = "int" from ty)
  exact ⟨typeIs_int s i t,fun _ e=>nomatch e⟩
 | ref p=>
  cases r
  rcases ty with ⟨rfl,xs,hq⟩ | ⟨rfl,o,hk,hc,hd⟩ | ⟨rfl,hk⟩ | ⟨rfl,S,n,hk⟩
  . obtain ⟨its,_,pl,_⟩:=I.list hq
    refine ⟨pl.isList.typeIs,fun a e=>?_⟩
    cases e
    obtain ⟨o,n,e,c,hd,_⟩:=pl
    exact ⟨o,e,hd⟩
  . refine ⟨⟨o,I.kIn p o hk,hc⟩,fun a e=>?_⟩
    cases e
    exact ⟨o,I.kIn _ o hk,hd⟩
  . have z:∃ o,s.heap.get? p=some o/\o.ExactDict:=by
     rcases hk with ⟨kvs,hk⟩ | ⟨kvs,hk⟩
     . obtain ⟨_,_,_,_,o,_,_,e,ex,_⟩:=I.hok p _ hk
       exact ⟨o,e,ex⟩
     . obtain ⟨_,_,_,_,o,_,_,e,ex,_⟩:=I.hok p _ hk
       exact ⟨o,e,ex⟩
    obtain ⟨o,e,ex⟩:=z
    refine ⟨⟨o,e,ex.1⟩,fun a e2=>?_⟩
    cases e2
    exact ⟨o,e,ex.2.1⟩
  . obtain ⟨o,_,_,_,e,ex,_⟩:=I.hok p _ hk
    refine ⟨⟨o,e,ex.1⟩,fun a e2=>?_⟩
    cases e2
    exact ⟨o,e,ex.2.1⟩
 | _=>exact False.elim ty
def tBM0 (K:PySem.W.Frag) (T:String) (r:V->List V->Hp->VK->Prop) (to:TE):TE:=fun σ H Q=>to σ H fun x H1=>tyV K T x H1/\r x [] H1 Q
def tBM (K:PySem.W.Frag) (T:String) (r:V->List V->Hp->VK->Prop) (to:TE) (t:TA):TE:=fun σ H Q=>to σ H fun x H1=>tyV K T x H1/\t σ H1 fun xs H2=>r x xs H2 Q
variable {o e:Expr} {es:List Expr} {to:TE} {t:TA} {name:Str} {apos cpos:Pos} {T id:String} {r:V->List V->Hp->VK->Prop}
theorem pe_bm0 (pa:PlainAttrs T) (slot:Slot T name id) (hty:typeOf (.builtin id)=pure (.type "method_descriptor")) (hm:MtR X id r) (ho:PE X o to)
 (hbase:attributeBase o name X.env (eval o X.env)=eval o X.env:=by rfl) (hline:(apos.endLine == cpos.line)=true:=by rfl):PE X (.Call (.Attribute o name apos) [] [] cpos) (tBM0 X.K T r to):=by
 intro pins s σ H Q I h
 refine wpAny_Call_method0_late hbase hline (thn (ho pins s σ H _ I h) fun v s1 ⟨x,H1,I1,r1,ty,q1⟩=>?_)
 obtain ⟨h1,h2⟩:=tyV_is I1 r1 ty
 exact ⟨T,id,pa,slot,hty,h1,h2,Calls.callWith_builtin rfl (PySem.evalArgs_none (hm pins s1 σ H1 x [] v [] Q I1 r1 .nil q1))⟩
theorem pe_bm (pa:PlainAttrs T) (slot:Slot T name id) (hty:typeOf (.builtin id)=pure (.type "method_descriptor")) (hm:MtR X id r) (ho:PE X o to) (ha:PA X (e :: es) t)
 (hbase:attributeBase o name X.env (eval o X.env)=eval o X.env:=by rfl)
 (hfew:((backTo cpos (starEach (e :: es) X.env)).all (fun x=>!x.1) && (backToKw cpos (keywordEach [] X.env)).all (fun x=>x.1.isSome)
  && decide ((e :: es).length + ([]:List Keyword).length + (if ([]:List Keyword).isEmpty then 0 else 1) < 30))=true:=by rfl)
 (hline:(apos.endLine == cpos.line)=true:=by rfl) (hs:starEach (e :: es) X.env=(false,eval e X.env) :: starEach es X.env:=by rfl) (hplain:(backTo cpos (starEach es X.env)).any (·.1)=false:=by rfl) :
 PE X (.Call (.Attribute o name apos) (e :: es) [] cpos) (tBM X.K T r to t):=by
 intro pins s σ H Q I h
 refine wpAny_Call_method_late hbase hfew hline rfl (thn (ho pins s σ H _ I h) fun v s1 ⟨x,H1,I1,r1,ty,q1⟩=>?_)
 obtain ⟨h1,h2⟩:=tyV_is I1 r1 ty
 refine ⟨T,id,pa,slot,hty,h1,h2,?_⟩
 have hA:=ha cpos pins s1 σ H1 _ I1 q1
 rw [hs] at hA ⊢
 refine Calls.callWith_builtin (by show (false || (backTo cpos (starEach es X.env)).any (·.1))=false; rw [hplain] <;> rfl) (Calls.evalArgs_plain ?_)
 exact thn hA fun us s2 ⟨vs,H2,I2,r2,q2⟩=>hm pins s2 σ H2 x vs v us Q I2 r1 r2 q2
end
end L2
namespace L2
open PySem PySem.Spec PyProof.Rows
def MtM (X:Cx) (id:String) (r:V->List V->Hp->VK->Prop):Prop:=
 ∀ (pins:List (Addr × Obj)) (s:Shared) (σ:St) (H:Hp) (x:V) (xs:List V) (v:Value) (us:List Value) (Q:VK),Inv X pins σ H s->RelV x v->Vals xs us->r x xs H Q ->
  wpAny (model X.prog X.w) X.A (call (.builtin id) (v :: us)) (EP X pins σ Q) X.xe s
theorem Vals.one:∀ {x:V} {us:List Value},Vals [x] us->∃ u,us=[u]/\RelV x u
 | _,_,.cons r .nil=>⟨_,rfl,r⟩
theorem Vals.zero:∀ {us:List Value},Vals [] us->us=[]
 | _,.nil=>rfl
theorem Vals.dropLast {xs:List V} {us:List Value} (h:Vals xs us):Vals xs.dropLast us.dropLast:=by
 induction h with
 | nil=>exact .nil
 | cons r t ih=>
  cases t with
  | nil=>exact .nil
  | cons q t'=>exact .cons r ih
theorem Vals.rep {xs:List V} {us:List Value} (h:Vals xs us):∀ k:Nat,Vals (List.replicate k xs).flatten (List.replicate k us).flatten
 | 0=>.nil
 | k + 1=>by
  rw [List.replicate_succ,List.replicate_succ,List.flatten_cons,List.flatten_cons]
  exact Vals.append h (Vals.rep h k)
theorem erase_last {α:Type} (l:List α):l.eraseIdx (l.length - 1)=l.dropLast:=by
 induction l with
 | nil=>rfl
 | cons a r ih=>
  cases r with
  | nil=>rfl
  | cons b r=>
   have e:(a :: b :: r).length - 1=((b :: r).length - 1) + 1:=by
    have h1:(a :: b :: r).length=r.length + 2:=rfl
    have h2:(b :: r).length=r.length + 1:=rfl
    omega
   rw [e,List.eraseIdx_cons_succ,ih]
   all_goals rfl
theorem foldl_rep (its:List Value):∀ (k:Nat) (acc:List Value),
 List.foldl (fun x1 x2=>x1 ++ x2) acc.toArray (List.replicate k its.toArray)=(acc ++ (List.replicate k its).flatten).toArray
 | 0,acc=>by simp
 | k + 1,acc=>by
  have e:acc.toArray ++ its.toArray=(acc ++ its).toArray:=by simp
  have e2:(acc ++ its) ++ (List.replicate k its).flatten=acc ++ (List.replicate (k + 1) its).flatten:=by
   rw [List.replicate_succ,List.flatten_cons,List.append_assoc]
  rw [<- e2,<- foldl_rep its k (acc ++ its),<- e,List.replicate_succ,List.foldl_cons]
section
variable {X:Cx} {pins:List (Addr × Obj)} {σ:St} {H:Hp} {s:Shared} {l b:Addr} {xs ys zs:List V}
theorem Inv.lset {its its':List Value} {n:Nat} {f:Array Value->Array Value} {t':Nat} (I:Inv X pins σ H s) (hH:H l=some (.lst xs))
 (e:s.heap.get? l=some { cls:=.type "list",data:=.seq its.toArray n }) (hf:f its.toArray=its'.toArray) (hv:Vals ys its') (hz:ys.length<=sizeLine) :
 Inv X pins σ (upd H l (.lst ys)) { s with heap:=s.heap.update l (Obj.mapSeq f),toks:=t' }:=by
 have q:=PySem.IsL.update e f
 rw [hf] at q
 refine I.write (x:=l) (e:=l) (by rw [hH]; exact trivial) (.inl rfl) (fun b' u hb hu=>(Heap.get?_update_other s.heap (Obj.mapSeq f) (Ne.symm hb)).trans hu) ⟨_,q⟩ ?_
 exact ⟨hz,its',_,hv,q⟩
theorem Inv.lnew {its:List Value} {t':Nat} (I:Inv X pins σ H s) (hv:Vals ys its) (hz:ys.length<=sizeLine) :
 Inv X pins σ (upd H s.heap.objs.size (.lst ys)) { s with heap:=s.heap.push { cls:=.type "list",data:=.seq its.toArray },toks:=t' }:=
 I.laid (fun _ _ q=>Heap.get?_push_of_some _ q) (Nat.le_refl _) ⟨hz,its,0,hv,Heap.get?_push_size _ rfl⟩
theorem Inv.fresh (I:Inv X pins σ H s):H s.heap.objs.size=none:=I.hok.fresh (Nat.le_refl _)
theorem Inv.lstM (I:Inv X pins σ H s) (hH:H l=some (.lst xs)):xs.length<=sizeLine/\∃ (its:List Value) (n:Nat),Vals xs its/\xs.length=its.length/\s.heap.get? l=some { cls:=.type "list",data:=.seq its.toArray n }:=by
 obtain ⟨z,its,n,r,e⟩:=I.hok l _ hH
 exact ⟨z,its,n,r,r.length,e⟩
theorem notLongL {n:Nat} (h:n<=sizeLine):Builtin.List.listTooLong n=false:=by
 unfold Builtin.List.listTooLong
 exact decide_eq_false (by omega)
end
section
variable {X:Cx}
def rAppend:V->List V->Hp->VK->Prop:=fun x vs H Q=>∃ l xs y,x = .ref l/\vs=[y]/\H l=some (.lst xs)/\xs.length < sizeLine/\Q .non (upd H l (.lst (xs ++ [y])))
theorem mt_append:MtM X "list.append" rAppend:=by
 intro pins s σ H x vs v us Q I rx rv h
 obtain ⟨l,xs,y,rfl,rfl,hH,hz,q⟩:=h
 cases rx
 obtain ⟨u,rfl,ru⟩:=rv.one
 obtain ⟨z,its,n,r,hl,e⟩:=I.lstM hH
 refine call_meets F.slot_list_append ⟨_,e,rfl⟩ F.entry_list_append (F.args_list_append_2 _ _) (PySem.list_append l its.toArray n u (by rw [List.size_toArray]; omega)) ⟨e,?_⟩
 refine ⟨.non,_,I.lset (its':=its ++ [u]) hH e (by simp) (r.append (.cons ru .nil)) ?_,rfl,q⟩
 rw [List.length_append,List.length_singleton]
 omega
def rExtend:V->List V->Hp->VK->Prop:=fun x vs H Q=>∃ l b xs zs,x = .ref l/\vs=[.ref b]/\H l=some (.lst xs)/\H b=some (.lst zs)/\xs.length + zs.length<=sizeLine/\Q .non (upd H l (.lst (xs ++ zs)))
theorem mt_extend:MtM X "list.extend" rExtend:=by
 intro pins s σ H x vs v us Q I rx rv h
 obtain ⟨l,b,xs,zs,rfl,rfl,hH,hB,hz,q⟩:=h
 cases rx
 obtain ⟨u,rfl,ru⟩:=rv.one
 cases ru
 obtain ⟨z,its,n,r,hl,e⟩:=I.lstM hH
 obtain ⟨z2,its2,n2,r2,hl2,e2⟩:=I.lstM hB
 have hsz:its.toArray.size + its2.toArray.size<=sizeLine:=by rw [List.size_toArray,List.size_toArray]; omega
 have hlong:¬ (!its.toArray.isEmpty && Builtin.List.listTooLong (its.toArray.size + its2.toArray.size))=true:=by
  rw [notLongL hsz,Bool.and_false]
  exact Bool.false_ne_true
 refine call_meets F.slot_list_extend ⟨_,e,rfl⟩ F.entry_list_extend (F.args_list_extend_2 _ _)
  (AutoSeq1.list_extend_list_list_0 l its.toArray n b its2.toArray n2 hlong (by rw [List.size_toArray]; omega) (by omega)) ⟨e,e2,?_⟩
 refine ⟨.non,_,I.lset (its':=its ++ its2) hH e (by simp) (r.append r2) ?_,rfl,q⟩
 rw [List.length_append]
 omega
def rPop:V->List V->Hp->VK->Prop:=fun x vs H Q=>∃ l xs y,x = .ref l/\vs=[]/\H l=some (.lst xs)/\xs[xs.length - 1]? = some y/\Q y (upd H l (.lst xs.dropLast))
theorem mt_pop:MtM X "list.pop" rPop:=by
 intro pins s σ H x vs v us Q I rx rv h
 obtain ⟨l,xs,y,rfl,rfl,hH,hy,q⟩:=h
 cases rx
 have hus:=rv.zero
 subst hus
 obtain ⟨z,its,n,r,hl,e⟩:=I.lstM hH
 obtain ⟨u,hu,ru⟩:=r.get hy
 have hy':its.toArray[its.toArray.size - 1]? = some u:=by
  show its.toArray[its.length - 1]? = some u
  rw [<- Array.getElem?_toList,<- hl]
  exact hu
 refine call_meets F.slot_list_pop ⟨_,e,rfl⟩ F.entry_list_pop (F.args_list_pop_1 _) (MeetsSeq.list_pop_last l its.toArray n u hy' (by rw [List.size_toArray]; omega)) ⟨e,?_⟩
 refine ⟨y,_,I.lset (its':=its.dropLast) hH e ?_ r.dropLast ?_,ru,q⟩
 . show its.toArray.eraseIdxIfInBounds (its.toArray.size - 1)=its.dropLast.toArray
   rw [List.size_toArray,List.eraseIdxIfInBounds_toArray,erase_last]
 . rw [List.length_dropLast]
   omega
def rCat:R2:=fun x y H Q=>∃ l b xs zs,x = .ref l/\y = .ref b/\H l=some (.lst xs)/\H b=some (.lst zs)/\xs.length + zs.length<=sizeLine/\∀ p,H p=none->Q (.ref p) (upd H p (.lst (xs ++ zs)))
theorem op_cat:OpR X (binaryOp .Add) rCat:=by
 intro pins s σ H x y v u Q I rx ry h
 obtain ⟨l,b,xs,zs,rfl,rfl,hH,hB,hz,q⟩:=h
 cases rx
 cases ry
 obtain ⟨z,its,n,r,hl,e⟩:=I.lstM hH
 obtain ⟨z2,its2,n2,r2,hl2,e2⟩:=I.lstM hB
 refine PySem.P.add_list e e2 ?_ (by rw [List.size_toArray,List.size_toArray]; omega)
 have ea:its.toArray ++ its2.toArray=(its ++ its2).toArray:=by simp
 rw [ea]
 exact ⟨.ref _,_,I.lnew (t':=s.toks) (r.append r2) (by rw [List.length_append]; omega),rfl,q _ I.fresh⟩
def rRep:R2:=fun x y H Q=>∃ l k xs,x = .ref l/\y = .int k/\H l=some (.lst xs) /\ -(2 ^ 63)<=k/\k < 2 ^ 63/\xs.length * k.toNat<=sizeLine /\
 ∀ p,H p=none->Q (.ref p) (upd H p (.lst (List.replicate k.toNat xs).flatten))
theorem len_rep {α:Type} (xs:List α) (k:Nat):(List.replicate k xs).flatten.length=k * xs.length:=by
 induction k with
 | zero=>simp
 | succ k ih=>rw [List.replicate_succ,List.flatten_cons,List.length_append,ih,Nat.succ_mul,Nat.add_comm]
theorem op_rep:OpR X (binaryOp .Mult) rRep:=by
 intro pins s σ H x y v u Q I rx ry h
 obtain ⟨l,k,xs,rfl,rfl,hH,h1,h2,hz,q⟩:=h
 cases rx
 obtain ⟨t,rfl⟩:=ry
 obtain ⟨z,its,n,r,hl,e⟩:=I.lstM hH
 have hlen:its.toArray.size * k.toNat<=sizeLine:=by rw [List.size_toArray,<- hl]; exact hz
 have hcap:¬ its.toArray.size * k.toNat > (2 ^ 63 - 1) / 8:=by
  have:(sizeLine:Nat)<=(2 ^ 63 - 1) / 8:=by decide
  omega
 have hfit:¬ (!Builtin.List.listFitsIndex k)=true:=by
  rw [fitsIndex_both h1 h2]
  exact Bool.false_ne_true
 have hlong:¬ Builtin.List.listTooLong (its.toArray.size * k.toNat)=true:=by
  rw [notLongL hlen]
  exact Bool.false_ne_true
 have hnew:List.foldl (fun x1 x2=>x1 ++ x2) #[] (List.replicate (if its.toArray.isEmpty=true then 0 else k.toNat) its.toArray)=(List.replicate k.toNat its).flatten.toArray:=by
  have f0:∀ m:Nat,List.foldl (fun x1 x2=>x1 ++ x2) #[] (List.replicate m its.toArray)=(List.replicate m its).flatten.toArray:=fun m=>by
   have:=foldl_rep its m []
   rw [List.nil_append] at this
   exact this
  rw [f0]
  cases its with
  | nil=>simp
  | cons a r'=>rw [if_neg (by simp)]
 refine wpAny_binaryOp_repeat_ref (T:="list") (U:="int") (by decide) ⟨_,e,rfl⟩ (fun s'=>typeIs_int s' k t) noFill_list_mul F.fills_int_mul F.slot_int_rmul repeat_list F.slot_int_index.lookup
  (call_meets F.slot_int_rmul (typeIs_int s k t) F.entry_int_rmul (F.args_int_rmul_2 _ _) (int___rmul___int_list k t l its.toArray n)
   ⟨e,rfl,⟨_,e,rfl⟩,call_meets F.slot_list_mul ⟨_,e,rfl⟩ F.entry_list_mul (F.args_list_mul_2 _ _) (AutoListH.list___mul___list_int_3 l its.toArray n k t hfit hcap hlong) ⟨e,?_⟩⟩)
 rw [hnew]
 exact ⟨.ref _,_,I.lnew (t':=s.toks) (r.rep k.toNat) (by rw [len_rep,Nat.mul_comm]; exact hz),rfl,q _ I.fresh⟩
end
section
variable {prog:Program} {w:World} {A:Around} {E:Value->Shared->Prop} {s:Shared}
end
end L2
namespace L2
open PySem PySem.Spec PyProof.Rows
mutual
inductive Dp (K:PySem.W.Frag) (H:Hp):V->PyData->Prop
 | non:Dp K H .non .none
 | bl (b:Bool):Dp K H (.bl b) (.bool b)
 | int (i:Int):Dp K H (.int i) (.int i)
 | str (x:Str):Dp K H (.str x) (.str x)
 | lst {a:Addr} {xs:List V} {ds:List PyData}:SqL K H a xs->DpAll K H xs ds->Dp K H (.ref a) (.list ds)
 | tup {a:Addr} {xs:List V} {ds:List PyData}:SqT K H a xs->DpAll K H xs ds->Dp K H (.ref a) (.tuple ds)
inductive DpAll (K:PySem.W.Frag) (H:Hp):List V->List PyData->Prop
 | nil:DpAll K H [] []
 | cons {v:V} {vs:List V} {d:PyData} {ds:List PyData}:Dp K H v d->DpAll K H vs ds->DpAll K H (v :: vs) (d :: ds)
end
section
variable {X:Cx} {pins:List (Addr × Obj)} {σ:St} {H:Hp} {s:Shared}
mutual
theorem Dp.reads (I:Inv X pins σ H s):∀ (d:PyData) (v:V) (u:Value),Dp X.K H v d->RelV v u->∃ as,Reads s.heap u d as
 | .none,_,_,h,r=>by
  cases h
  cases r
  exact ⟨_,Reads.none⟩
 | .bool b,_,_,h,r=>by
  cases h
  cases r
  exact ⟨_,Reads.bool b⟩
 | .int i,_,_,h,r=>by
  cases h
  obtain ⟨t,rfl⟩:=r
  exact ⟨_,Reads.int i t⟩
 | .str x,_,_,h,r=>by
  cases h
  obtain ⟨t,rfl⟩:=r
  exact ⟨_,Reads.str x t⟩
 | .list ds,_,_,h,r=>by
  cases h with
  | lst hs ha=>
   cases r
   obtain ⟨its,rv,⟨o,n,ho,hc,_,hd⟩,_⟩:=I.list hs
   obtain ⟨as,hr⟩:=Dp.readsAll I ds _ its ha rv
   exact ⟨_,Reads.list ho hc hd hr⟩
 | .tuple ds,_,_,h,r=>by
  cases h with
  | tup hs ha=>
   cases r
   obtain ⟨its,rv,⟨o,ho,hc,n,hd⟩,_⟩:=I.tuple hs
   obtain ⟨as,hr⟩:=Dp.readsAll I ds _ its ha rv
   exact ⟨_,Reads.tuple ho hc hd hr⟩
 | .dict _,_,_,h,_=>by cases h
theorem Dp.readsAll (I:Inv X pins σ H s):∀ (ds:List PyData) (vs:List V) (us:List Value),DpAll X.K H vs ds->Vals vs us->∃ as,ReadsAll s.heap us ds as
 | [],_,_,h,r=>by
  cases h
  cases r
  exact ⟨_,ReadsAll.nil⟩
 | d :: ds,_,_,h,r=>by
  cases h with
  | cons h1 h2=>
   cases r with
   | cons r1 r2=>
    obtain ⟨as,q1⟩:=Dp.reads I d _ _ h1 r1
    obtain ⟨bs,q2⟩:=Dp.readsAll I ds _ _ h2 r2
    exact ⟨_,ReadsAll.cons q1 q2⟩
end
end
section
variable {X:Cx}
def rEqD (K:PySem.W.Frag):R2:=fun x y H Q=>∃ d e,Dp K H x d/\Dp K H y e/\SeqAt.shaped d=true/\SeqAt.shaped e=true/\Q (.bl (PyData.eqv d e)) H
theorem op_eqD (hu:X.A.units + 64 < cLine):OpR X (compareOp .Eq) (rEqD X.K):=by
 intro pins s σ H x y v u Q I rx ry h
 obtain ⟨d,e,hd,he,sd,se,q⟩:=h
 obtain ⟨as,r1⟩:=Dp.reads I d x v hd rx
 obtain ⟨bs,r2⟩:=Dp.reads I e y u he ry
 exact SeqAt.compareEq_shaped r1 r2 sd se hu ⟨.bl _,H,I,rfl,q⟩
end
end L2
namespace L2
open PySem PySem.Spec PyProof.Rows
abbrev CellAt (h:Heap) (c:Addr) (v:Option Value):Prop:=h.IsCell c v
def relS (scope sc:Scope):Scope:=
 { scope with names:=scope.names.map fun (n,k)=>if (k == .free && sc.kind == .function && sc.names.lookup n == some .cell) then (n,.cell) else (n,k) }
def cloFrom (cells:List (Str × Addr)):List (Str × NameKind)->List (Str × Addr)->List (Str × Addr)
 | [],acc=>acc
 | (n,k) :: r,acc=>if k == .free then cloFrom cells r ((n,(cells.lookup n).getD 0) :: acc) else cloFrom cells r acc
theorem closure_loop (env:Env) (f:Str × NameKind->List (Str × Addr)->Sem (ForInStep (List (Str × Addr))))
 (hf:∀ n k c,f (n,k) c=if k == .free then (do let a <- cellOf env n; pure (.yield ((n,a) :: c))) else pure (.yield c)) :
 ∀ (names:List (Str × NameKind)) (acc:List (Str × Addr)),(∀ y ∈ names,y.2 = .free->∃ c,env.cells.lookup y.1=some c)->forIn names acc f=pure (cloFrom env.cells names acc)
 | [],acc,_=>by rw [List.forIn_nil]; rfl
 | (n,k) :: r,acc,h=>by
  rw [List.forIn_cons,hf]
  have ih:=fun acc=>closure_loop env f hf r acc fun y hy=>h y (List.mem_cons_of_mem _ hy)
  unfold cloFrom
  by_cases hk:(k == NameKind.free)=true
  . rw [if_pos hk,if_pos hk]
    obtain ⟨c,hc⟩:=h (n,k) List.mem_cons_self (by simpa using hk)
    have e:cellOf env n=pure c:=by unfold cellOf; rw [hc]
    rw [e]
    have e2:(env.cells.lookup n).getD 0=c:=by rw [hc]; rfl
    rw [e2]
    exact ih _
  . rw [if_neg hk,if_neg hk]
    exact ih _
theorem closure_ok {scope:Scope} {env:Env} (h:∀ y ∈ scope.names,y.2 = .free->∃ c,env.cells.lookup y.1=some c):closureFor scope env=pure (cloFrom env.cells scope.names []):=by
 simp only [closureFor]
 rw [closure_loop env _ (fun n k c=>rfl) scope.names [] h]
 rfl
theorem mem_lookup {α:Type}:∀ {l:List (Str × α)} {n:Str} {c:α},(n,c) ∈ l->∃ c',l.lookup n=some c'
 | (k,v) :: r,n,c,h=>by
  rw [List.lookup_cons]
  cases hb:n == k with
  | true=>exact ⟨_,rfl⟩
  | false=>
   rcases List.mem_cons.mp h with e | h
   . cases e; simp at hb
   . exact mem_lookup h
theorem cloFrom_mem {cells:List (Str × Addr)}:∀ {names:List (Str × NameKind)} {acc:List (Str × Addr)} {n:Str} {c:Addr},(n,c) ∈ cloFrom cells names acc->(n,c) ∈ acc \/ ((n,.free) ∈ names/\c=(cells.lookup n).getD 0)
 | [],_,_,_,h=>.inl h
 | (m,k) :: r,acc,n,c,h=>by
  unfold cloFrom at h
  split at h
  . rename_i hk
    have hk:k = .free:=by simpa using hk
    rcases cloFrom_mem h with h | ⟨h1,h2⟩
    . rcases List.mem_cons.mp h with e | h
      . cases e; exact .inr ⟨hk ▸ List.mem_cons_self,rfl⟩
      . exact .inl h
    . exact .inr ⟨List.mem_cons_of_mem _ h1,h2⟩
  . rcases cloFrom_mem h with h | ⟨h1,h2⟩
    . exact .inl h
    . exact .inr ⟨List.mem_cons_of_mem _ h1,h2⟩
theorem cloFrom_acc {cells:List (Str × Addr)}:∀ {names:List (Str × NameKind)} {acc:List (Str × Addr)} {p:Str × Addr},p ∈ acc->p ∈ cloFrom cells names acc
 | [],_,_,h=>h
 | (m,k) :: r,acc,p,h=>by
  unfold cloFrom
  split
  . exact cloFrom_acc (List.mem_cons_of_mem _ h)
  . exact cloFrom_acc h
theorem cloFrom_has {cells:List (Str × Addr)}:∀ {names:List (Str × NameKind)} {acc:List (Str × Addr)} {n:Str},(n,.free) ∈ names->(n,(cells.lookup n).getD 0) ∈ cloFrom cells names acc
 | (m,k) :: r,acc,n,h=>by
  unfold cloFrom
  rcases List.mem_cons.mp h with e | h
  . cases e
    exact cloFrom_acc List.mem_cons_self
  . split
    . exact cloFrom_has h
    . exact cloFrom_has h
theorem cells_mem:∀ {names:List (Str × NameKind)} {h:Heap} {acc:List (Str × Addr)} {x:Str} {c:Addr},(x,c) ∈ cellsFrom h.objs.size names acc ->
 (x,c) ∈ acc \/ ((x,.cell) ∈ names/\h.objs.size<=c/\CellAt (pushCells h names) c none)
 | [],_,_,_,_,h=>.inl h
 | (n,k) :: r,h,acc,x,c,hm=>by
  unfold cellsFrom at hm
  unfold pushCells
  split at hm
  . rename_i hk
    rw [if_pos hk]
    have hk:k = .cell:=by simpa using hk
    rw [<- Heap.size_push h { cls:=.type "cell",data:=.cell none }] at hm
    rcases cells_mem hm with hm | ⟨h1,h2,h3⟩
    . rcases List.mem_cons.mp hm with e | hm
      . cases e
        exact .inr ⟨hk ▸ List.mem_cons_self,Nat.le_refl _,_,pushCells_keeps r _ _ _ (Heap.get?_push_size _ rfl),rfl⟩
      . exact .inl hm
    . rw [Heap.size_push] at h2
      exact .inr ⟨List.mem_cons_of_mem _ h1,Nat.le_of_succ_le h2,h3⟩
  . rename_i hk
    rw [if_neg hk]
    rcases cells_mem hm with hm | ⟨h1,h2,h3⟩
    . exact .inl hm
    . exact .inr ⟨List.mem_cons_of_mem _ h1,h2,h3⟩
theorem cells_acc:∀ {names:List (Str × NameKind)} {n:Nat} {acc:List (Str × Addr)} {p:Str × Addr},p ∈ acc->p ∈ cellsFrom n names acc
 | [],_,_,_,h=>h
 | (m,k) :: r,n,acc,p,h=>by
  unfold cellsFrom
  split
  . exact cells_acc (List.mem_cons_of_mem _ h)
  . exact cells_acc h
theorem cells_has:∀ {names:List (Str × NameKind)} {n:Nat} {acc:List (Str × Addr)} {x:Str},(x,.cell) ∈ names->∃ c,(x,c) ∈ cellsFrom n names acc
 | (m,k) :: r,n,acc,x,h=>by
  unfold cellsFrom
  rcases List.mem_cons.mp h with e | h
  . cases e
    exact ⟨n,cells_acc List.mem_cons_self⟩
  . split
    . exact cells_has h
    . exact cells_has h
theorem cells_inj:∀ {names:List (Str × NameKind)} {h:Heap} {acc:List (Str × Addr)} {x y:Str} {c:Addr},(∀ p ∈ acc,p.2 < h.objs.size)->(∀ x y c,(x,c) ∈ acc->(y,c) ∈ acc->x=y) ->
 (x,c) ∈ cellsFrom h.objs.size names acc->(y,c) ∈ cellsFrom h.objs.size names acc->x=y
 | [],_,_,_,_,_,_,hi,h1,h2=>hi _ _ _ h1 h2
 | (n,k) :: r,h,acc,x,y,c,hl,hi,h1,h2=>by
  unfold cellsFrom at h1 h2
  split at h1
  . rename_i hk
    rw [if_pos hk] at h2
    rw [<- Heap.size_push h { cls:=.type "cell",data:=.cell none }] at h1 h2
    refine cells_inj (h:=h.push _) (fun p hp=>?_) (fun x y c a b=>?_) h1 h2
    . rw [Heap.size_push]
      rcases List.mem_cons.mp hp with rfl | hp
      . exact Nat.lt_succ_self _
      . exact Nat.lt_succ_of_lt (hl p hp)
    . rcases List.mem_cons.mp a with e | a <;> rcases List.mem_cons.mp b with e' | b
      . cases e; cases e'; rfl
      . cases e; exact absurd (hl _ b) (Nat.lt_irrefl _)
      . cases e'; exact absurd (hl _ a) (Nat.lt_irrefl _)
      . exact hi _ _ _ a b
  . rename_i hk
    rw [if_neg hk] at h2
    exact cells_inj hl hi h1 h2
theorem newEnv_comp {M:Model} {A:Around} {E:Value->Shared->Prop} {s:Shared} {scope:Scope} {globals:Addr} {closure:List (Str × Addr)} {qual:Str} {func:Option Addr} {code:Value} {around:Env} {builtins:Addr} {Q:Env->Shared->Prop}
 (h:Q (newEnv scope s.heap.objs.size globals (cellsFrom (s.heap.objs.size + 1) scope.names closure) qual func code (some around) builtins)
  { s with heap:=pushCells (s.heap.push { cls:=.type "dict",data:=.dict #[] }) scope.names }) :
 wpAny M A (newFunctionEnv scope globals closure [] qual func code (some around) builtins) Q E s:=by
 simp only [newFunctionEnv,Option.isSome_some,if_true]
 refine wpAny_bind (wpAny_alloc ?_)
 refine wpAny_bind (wpAny_layCells _ (fun n k c=>rfl) scope.names closure _ _ ?_)
 rw [show ({ s with heap:=s.heap.push { cls:=.type "dict",data:=.dict #[] } }:Shared).heap.objs.size=s.heap.objs.size + 1 from Heap.size_push ..]
 rw [List.forIn_nil]
 exact wpAny_bind (wpAny_pure (wpAny_pure h))
theorem lookup_relS {sc:Scope}:∀ {names:List (Str × NameKind)} {x:Str} {k:NameKind},
 (names.map fun (n,k)=>if (k == NameKind.free && sc.kind == .function && sc.names.lookup n == some .cell) then (n,NameKind.cell) else (n,k)).lookup x=some k ->
 ∃ k',names.lookup x=some k'/\(k=k' \/ (k' = .free/\k = .cell))
 | [],_,_,h=>by simp at h
 | (n,k₀) :: r,x,k,h=>by
  have ih:=@lookup_relS sc r x k
  have h':List.lookup x ((if (k₀ == NameKind.free && sc.kind == .function && sc.names.lookup n == some .cell)=true then (n,NameKind.cell) else (n,k₀)) :: (r.map _))=some k:=h
  cases hx:x == n with
  | true=>
   simp only [List.lookup_cons,hx]
   by_cases hc:(k₀ == NameKind.free && sc.kind == .function && sc.names.lookup n == some .cell)=true
   . rw [if_pos hc] at h'
     simp only [List.lookup_cons,hx] at h'
     cases h'
     simp only [Bool.and_eq_true,beq_iff_eq] at hc
     exact ⟨k₀,rfl,.inr ⟨hc.1.1,rfl⟩⟩
   . rw [if_neg hc] at h'
     simp only [List.lookup_cons,hx] at h'
     cases h'
     exact ⟨_,rfl,.inl rfl⟩
  | false=>
   simp only [List.lookup_cons,hx]
   by_cases hc:(k₀ == NameKind.free && sc.kind == .function && sc.names.lookup n == some .cell)=true
   . rw [if_pos hc] at h'
     simp only [List.lookup_cons,hx] at h'
     exact ih h'
   . rw [if_neg hc] at h'
     simp only [List.lookup_cons,hx] at h'
     exact ih h'
structure BlkOk (N:List Str) (sc scope:Scope) (own:List (Str × Nat)):Prop where
 kind:scope.kind = .function
 uniq:∀ y ∈ scope.names,scope.names.lookup y.1=some y.2
 ix:∀ p ∈ own,N[p.2]? = some p.1
 free:∀ y ∈ scope.names,y.2 = .free->sc.names.lookup y.1=some .cell \/ sc.names.lookup y.1=some .free
 own:∀ y ∈ scope.names,y.2 = .local \/ y.2 = .cell->y.1 ∈ own.map (·.1) \/ y.1 ∉ N
def wipe (σ:St):List Nat->St
 | []=>σ
 | v :: vs=>(wipe σ vs).set v none
theorem wipe_length (σ:St):∀ vs:List Nat,(wipe σ vs).length=σ.length
 | []=>rfl
 | v :: vs=>by unfold wipe; rw [List.length_set,wipe_length σ vs]
theorem wipe_some {σ:St} {i:Nat} {x:V}:∀ {vs:List Nat},(wipe σ vs)[i]? = some (some x)->σ[i]? = some (some x)/\i ∉ vs
 | [],h=>⟨h,by simp⟩
 | v :: vs,h=>by
  unfold wipe at h
  by_cases hi:v=i
  . subst hi
    by_cases hv:v < (wipe σ vs).length
    . rw [List.getElem?_set_self hv] at h; cases h
    . rw [List.getElem?_eq_none (by simpa using hv)] at h; cases h
  . rw [List.getElem?_set_ne hi] at h
    obtain ⟨h1,h2⟩:=wipe_some h
    exact ⟨h1,by simp only [List.mem_cons,not_or]; exact ⟨fun e=>hi e.symm,h2⟩⟩
abbrev Cx.blk (X:Cx) (s:Shared) (H:Hp) (scope:Scope) (cenv:Env) (fp:List Addr):Cx:={ X with s_0:=s,H_0:=H,env:=cenv,outer:=X.stack,ex:=fp,fn:=fun x=>scope.names.lookup x == some .cell,pn:=[],xe:=fun _ _=>False }
section
variable {X:Cx} {pins:List (Addr × Obj)} {σ:St} {H:Hp} {s:Shared}
theorem block_start {scope:Scope} {own:List (Str × Nat)} {fp:List Addr} (I:Inv X pins σ H s) (ok:BlkOk X.N X.env.scope scope own) (hN:X.N.Nodup) (hfp:∀ b ∈ fp,FpOk X pins H b/\b < s.heap.objs.size) :
 Inv (X.blk s H scope (compEnvC scope (cellsFrom (s.heap.objs.size + 1) scope.names (cloFrom X.env.cells scope.names [])) s.heap.objs.size X.env) fp) [] (wipe σ (own.map (·.2))) H { s with heap:=pushCells (s.heap.push { cls:=.type "dict",data:=.dict #[] }) scope.names }:=by
 have hfree:∀ y ∈ scope.names,y.2 = .free->∃ c,X.env.cells.lookup y.1=some c:=fun y hy e=>by
  rcases ok.free y hy e with k | k
  . exact I.ok.has _ (.inl k)
  . exact I.ok.has _ (.inr k)
 generalize hcenv:compEnvC scope (cellsFrom (s.heap.objs.size + 1) scope.names (cloFrom X.env.cells scope.names [])) s.heap.objs.size X.env=cenv
 have kp:∀ b o,s.heap.get? b=some o->(pushCells (s.heap.push { cls:=.type "dict",data:=.dict #[] }) scope.names).get? b=some o:=fun b o e=>pushCells_keeps _ _ _ _ (Heap.get?_push_of_some _ e)
 have hL:cenv.locals=s.heap.objs.size:=by rw [<- hcenv]; rfl
 have hcl:cenv.cells=cellsFrom (s.heap.objs.size + 1) scope.names (cloFrom X.env.cells scope.names []):=by rw [<- hcenv]; rfl
 have hsc:cenv.scope=relS scope X.env.scope:=by rw [<- hcenv]; rfl
 rw [<- Heap.size_push s.heap { cls:=.type "dict",data:=.dict #[] }] at hcl
 have cm:∀ {y c},(y,c) ∈ cloFrom X.env.cells scope.names []->X.env.cells.lookup y=some c/\c < s.heap.objs.size:=fun {y c} hm=>by
  rcases cloFrom_mem hm with hm | ⟨h1,rfl⟩
  . cases hm
  . obtain ⟨c,hc⟩:=hfree _ h1 rfl
    rw [hc]
    obtain ⟨w,z⟩:=I.cell _ _ hc
    exact ⟨rfl,z.lt⟩
 have mem:∀ {y c},cenv.cells.lookup y=some c->(X.env.cells.lookup y=some c/\c < s.heap.objs.size) \/ (s.heap.objs.size + 1<=c/\CellAt (pushCells (s.heap.push { cls:=.type "dict",data:=.dict #[] }) scope.names) c none):=fun {y c} e=>by
  rw [hcl] at e
  rcases cells_mem (PySem.mem_of_lookup e) with hm | ⟨_,h2,h3⟩
  . exact .inl (cm hm)
  . rw [Heap.size_push] at h2; exact .inr ⟨h2,h3⟩
 have look:∀ {y},scope.names.lookup y=some .free->∃ c,cenv.cells.lookup y=some c/\X.env.cells.lookup y=some c:=fun {y} hl=>by
  have hy:(y,NameKind.free) ∈ scope.names:=PySem.mem_of_lookup hl
  obtain ⟨c',e'⟩:=mem_lookup (cells_acc (names:=scope.names) (n:=(s.heap.push { cls:=.type "dict",data:=.dict #[] }).objs.size) (cloFrom_has (cells:=X.env.cells) (acc:=[]) hy))
  rw [<- hcl] at e'
  refine ⟨c',e',?_⟩
  rw [hcl] at e'
  rcases cells_mem (PySem.mem_of_lookup e') with hm | ⟨h1,_,_⟩
  . exact (cm hm).1
  . have:=ok.uniq _ h1
    rw [hl] at this; cases this
 have okB:(X.blk s H scope cenv fp).Ok:=by
  refine ⟨I.ok.mod,by show cenv.scope.kind=_; rw [hsc]; exact ok.kind,by show cenv.globals=_; rw [<- hcenv]; exact I.ok.glob,by show cenv.builtins=_; rw [<- hcenv]; exact I.ok.blt,by show s.heap.objs.size<=cenv.locals; rw [hL]; exact Nat.le_refl _,
   fun y z c e1 e2=>?_,fun y hy=>?_,fun y c z e=>?_,I.ok.hd,I.ok.frames,.inl rfl,fun b hb=>⟨?_,fun y c e z=>?_⟩,I.bs,Nat.le_trans I.ok.bsz I.sz,fun b o e hb=>?_,fun b hb z=>?_,I.stack,I.stkFree⟩
  . have e1:cenv.cells.lookup y=some c:=e1
    have e2:cenv.cells.lookup z=some c:=e2
    rw [hcl] at e1 e2
    refine cells_inj (fun p hp=>?_) (fun y z c a b=>I.ok.inj y z c (cm a).1 (cm b).1) (PySem.mem_of_lookup e1) (PySem.mem_of_lookup e2)
    rw [Heap.size_push]
    exact Nat.lt_succ_of_lt (cm (y:=p.1) (c:=p.2) hp).2
  . show ∃ c,cenv.cells.lookup y=some c
    have key:∀ k,cenv.kindOf y=some k->(k = .cell \/ k = .free)->∃ c,cenv.cells.lookup y=some c:=fun k hk hk'=>by
     unfold Env.kindOf at hk
     rw [hsc] at hk
     obtain ⟨k',e,r⟩:=lookup_relS hk
     have:k' = .cell \/ k' = .free:=by
      rcases r with rfl | ⟨rfl,_⟩
      . exact hk'
      . exact .inr rfl
     rcases this with rfl | rfl
     . obtain ⟨c,hm⟩:=cells_has (n:=(s.heap.push { cls:=.type "dict",data:=.dict #[] }).objs.size) (acc:=cloFrom X.env.cells scope.names []) (PySem.mem_of_lookup e)
       obtain ⟨c',e'⟩:=mem_lookup hm
       exact ⟨c',by rw [hcl]; exact e'⟩
     . obtain ⟨c,h1,_⟩:=look e
       exact ⟨c,h1⟩
    rcases hy with hy | hy
    . exact key _ hy (.inl rfl)
    . exact key _ hy (.inr rfl)
  . have z:(scope.names.lookup y == some NameKind.cell)=true:=z
    have z:scope.names.lookup y=some .cell:=by simpa using z
    have e:cenv.cells.lookup y=some c:=e
    rw [hcl] at e
    rcases cells_mem (PySem.mem_of_lookup e) with hm | ⟨_,h2,_⟩
    . rcases cloFrom_mem hm with hm | ⟨h1,_⟩
      . cases hm
      . have q:=ok.uniq _ h1
        rw [z] at q; cases q
    . rw [Heap.size_push] at h2
      exact Nat.le_of_succ_le h2
  . show b ≠ cenv.locals
    rw [hL]; exact Nat.ne_of_lt (hfp b hb).2
  . have e:cenv.cells.lookup y=some c:=e
    rcases mem e with ⟨h1,_⟩ | ⟨h1,_⟩
    . exact (hfp b hb).1.2.2.2.2.1 y c h1 z
    . have h2:s.heap.objs.size + 1<=b:=by rw [<- z]; exact h1
      exact absurd (Nat.lt_of_lt_of_le (hfp b hb).2 (Nat.le_of_succ_le h2)) (Nat.lt_irrefl _)
  . rcases (hfp b hb).1.2.2.2.1 with z | z
    . exact I.ok.noex b o e z
    . exact absurd (Nat.lt_of_lt_of_le (Heap.lt_size e) (Nat.le_trans I.ok.bsz z)) (Nat.lt_irrefl _)
  . rcases List.mem_cons.mp (I.stkSub b z) with z | z
    . exact (hfp b hb).1.2.1 z
    . exact (hfp b hb).1.2.2.1 z
 refine ⟨okB,rfl,I.bare,Un.kept kp,⟨fun _=>none,?_,fun i y av e1 e2 e3=>?_⟩,fun y c e=>?_,?_,fun y c e=>?_,fun p hp=>?_,I.hok.kept kp,by rw [wipe_length]; exact I.len⟩
 . show Heap.Ns _ cenv.locals _
   rw [hL]
   exact Heap.Ns.keeps (Heap.Ns.new ..) fun b o e=>pushCells_keeps _ _ _ _ e
 . obtain ⟨e2,hne⟩:=wipe_some e2
   have hfr:scope.names.lookup y=some .free/\(cenv.kindOf y=some .cell \/ cenv.kindOf y=some .free):=by
    have key:∀ k,cenv.scope.names.lookup y=some k->k = .local \/ k = .cell \/ k = .free->scope.names.lookup y=some .free/\(cenv.kindOf y=some .cell \/ cenv.kindOf y=some .free):=fun k hk hk'=>by
     have hk0:=hk
     rw [hsc] at hk
     obtain ⟨k',e,r⟩:=lookup_relS hk
     have no:¬ (k' = .local \/ k' = .cell):=fun hh=>by
      rcases ok.own _ (PySem.mem_of_lookup e) hh with e' | e'
      . obtain ⟨p,hp,hpy⟩:=List.mem_map.mp e'
        have e3:=ok.ix p hp
        have:p.1=y:=hpy
        rw [this] at e3
        exact hne (List.mem_map.mpr ⟨p,hp,nodup_ix hN e3 e1⟩)
      . exact e' (List.mem_of_getElem? e1)
     rcases r with rfl | ⟨rfl,rfl⟩
     . rcases hk' with rfl | rfl | rfl
       . exact absurd (.inl rfl) no
       . exact absurd (.inr rfl) no
       . exact ⟨e,.inr hk0⟩
     . exact ⟨e,.inl hk0⟩
    have e3:Vis cenv.scope y:=e3
    rcases e3 with e3 | e3 | e3
    . exact key _ e3 (.inl rfl)
    . exact key _ e3 (.inr (.inl rfl))
    . exact key _ e3 (.inr (.inr rfl))
   obtain ⟨m,hn,hl⟩:=I.loc
   have hvis:Vis X.env.scope y:=(ok.free _ (PySem.mem_of_lookup hfr.1) rfl).elim (fun k=>.inr (.inl k)) (fun k=>.inr (.inr k))
   obtain ⟨w,r,q⟩:=hl i y av e1 e2 hvis
   refine ⟨w,r,.inr ⟨hfr.2,?_⟩⟩
   obtain ⟨c,h1,h2⟩:=look hfr.1
   rcases q with ⟨k,_⟩ | ⟨_,c',e',z⟩
   . have k:X.env.scope.names.lookup y=some .local:=k
     rcases ok.free _ (PySem.mem_of_lookup hfr.1) rfl with k' | k' <;> rw [show X.env.scope.names.lookup y=_ from k'] at k <;> cases k
   . rw [h2] at e'; cases e'
     exact ⟨c,h1,z.keeps kp⟩
 . have e:cenv.cells.lookup y=some c:=e
   rcases mem e with ⟨h1,_⟩ | ⟨_,z⟩
   . obtain ⟨w,z⟩:=I.cell y c h1
     exact ⟨w,z.keeps kp⟩
   . exact ⟨_,z⟩
 . show H cenv.locals=none
   rw [hL]; exact I.hok.fresh (Nat.le_refl _)
 . have e:cenv.cells.lookup y=some c:=e
   rcases mem e with ⟨h1,_⟩ | ⟨h1,_⟩
   . exact I.freeC y c h1
   . exact I.hok.fresh (Nat.le_of_succ_le h1)
 . exact absurd (show p ∈ ([]:List (Addr × Obj)) ++ [] from hp) (by simp)
theorem app_ok {E:Value->Shared->Prop} {D:Addr} {xs:List V} {y:V} {v:Value} {Q:Value->Shared->Prop} (I:Inv X pins σ H s) (hD:H D=some (.lst xs)) (hz:xs.length < sizeLine) (r:RelV y v)
 (h:∀ s',Inv X pins σ (upd H D (.lst (xs ++ [y]))) s'->Q .none s'):wpAny (model X.prog X.w) X.A (call (.builtin "list.append") [.ref D,v]) Q E s:=by
 obtain ⟨hz',its,n,ri,e⟩:=I.hok D _ hD
 have hl:=ri.length
 refine append_at (hsz:=by rw [List.size_toArray]; omega) e fun h' sb ho'=>?_
 refine h { s with heap:=h' } (I.write (t':=s.toks) (by rw [hD]; trivial) (.inl rfl) (fun b u hb q=>(sb.2 b hb).trans q) ⟨_,ho'⟩ ⟨by rw [List.length_append]; exact hz,its ++ [v],n + 1,ri.append (.cons r .nil),?_⟩)
 rw [ho']
 simp
def PTs (X:Cx) (ifs:List Expr) (t:TT):Prop:=
 ∀ (pins:List (Addr × Obj)) (s:Shared) (σ:St) (H:Hp) (Q:Bool->Hp->Prop),Inv X pins σ H s->t σ H Q ->
  wpAny (model X.prog X.w) X.A (forIn ifs true fun c r=>if r=true then do let ok <- isTrue c X.env (eval c X.env); pure (ForInStep.yield ok) else pure (ForInStep.yield r)) (TP X pins σ Q) X.xe s
def tYes:TT:=fun _ H Q=>Q true H
theorem pts_nil:PTs X [] tYes:=fun _ _ _ H _ I h=>wpAny_tests_nil ⟨H,I,h⟩
theorem pts_one {c:Expr} {t:TT} (h:PT X c t):PTs X [c] t:=fun pins s σ H Q I hw=>wpAny_tests_one (h pins s σ H Q I hw)
end
theorem thnF {α:Type} {t:Sem α} {Q Q':α->Shared->Prop} {M:Model} {A:Around} {E:Value->Shared->Prop} {s:Shared} (h:wpAny M A t Q (fun _ _=>False) s) (hQ:∀ a s,Q a s->Q' a s):wpAny M A t Q' E s:=wpAny_mono h hQ fun _ _ z=>False.elim z
theorem compLoop_any {prog:Program} {w:World} {A:Around} {R:Result->Shared->Prop} {s:Shared} {elt target iter:Expr} {ifs:List Expr} {scope:Scope} {pos:Pos} {it acc:Value} {env:Env} (I:Nat->Shared->Prop)
 (turn:∀ n s,I n s->wpAny (model prog w) A (pyNext it) (fun r s₁=>match r with
  | none=>R (.ok .next) s₁
  | some v=>wpAny (model prog w) A (letOwnedTupleGo target it v) (fun _ s₁'=>wpAny (model prog w) A (assign target env v) (fun _ s₂=>
   wpAny (model prog w) A (forIn ifs true fun c r=>if r=true then do let ok <- isTrue c env (eval c env); pure (ForInStep.yield ok) else pure (ForInStep.yield r)) (fun ok s₃=>
    if ok=true then wpAny (model prog w) A (eval elt env) (fun x s₄=>
     wpAny (model prog w) A (call (.builtin "list.append") [acc,x]) (fun _ s₅=>∃ m,m < n/\I m s₅) (notedBy (model prog w) A env fun e s'=>R (.error e) s') s₄) (notedBy (model prog w) A env fun e s'=>R (.error e) s') s₃
    else ∃ m,m < n/\I m s₃) (notedBy (model prog w) A env fun e s'=>R (.error e) s') s₂) (notedBy (model prog w) A env fun e s'=>R (.error e) s') s₁') (notedBy (model prog w) A env fun e s'=>R (.error e) s') s₁) (notedBy (model prog w) A env fun e s'=>R (.error e) s') s)
 (n:Nat) (h:I n s) :
 codeAny (model prog w) A (.compLoop (.ListComp elt [⟨target,iter,ifs,0⟩] scope pos) 0 it acc env) R s:=by
 refine codeAny_loop rfl I (fun n s hI=>?_) n h
 show wpAny _ A ((compTurn (.ListComp elt [⟨target,iter,ifs,0⟩] scope pos) 0 it acc env).onRaise (fun x=>do noteFrame x env; theTreesLotGoes x)) _ _ s
 refine wpAny_noted ?_
 rw [compTurn_list]
 refine wpAny_bind (wpAny_standAt (wpAny_bind (wpAny_mono (turn n s hI) (fun r s₁ h₁=>?_) fun _ _ h'=>h')))
 cases r with
 | none=>exact wpAny_pure h₁
 | some v=>
  refine wpAny_bind (wpAny_mono h₁ (fun _ s₁' h₁'=>?_) fun _ _ h'=>h')
  refine wpAny_bind (wpAny_mono h₁' (fun _ s₂ h₂=>wpAny_bind (wpAny_mono h₂ (fun ok s₃ h₃=>?_) fun _ _ h'=>h')) fun _ _ h'=>h')
  cases ok with
  | false=>exact wpAny_pure ⟨rfl,h₃⟩
  | true=>
   exact wpAny_bind (wpAny_bind (wpAny_mono h₃ (fun x s₄ h₄=>wpAny_bind (wpAny_mono h₄ (fun _ s₅ h₅=>wpAny_pure (wpAny_pure ⟨rfl,h₅⟩)) fun _ _ h'=>h')) fun _ _ h'=>h'))
section
variable {X:Cx}
def tLc (wi:TI) (g:TG) (tt:TT) (te:TE) (vs:List Nat):TE:=fun σ H Q=>wi σ H fun J H1=>∀ D,H1 D=none->∃ W:Nat->Nat->Hp->Prop,(∃ m,W 0 m (upd H1 D (.lst [])))/\∀ i m H,W i m H ->
 (J.stop i H/\Q (.ref D) H) \/ (J.go i H/\∃ Nx:Hp->Prop,(∀ H',Nx H'->∃ m',m' < m/\W (i + 1) m' H')/\∀ x H',J.yld i H x H'->g x (wipe σ vs) H' fun σ2 H2=>wipe σ2 vs=wipe σ vs/\tt σ2 H2 fun b H3=>
  if b=true then te σ2 H3 fun y H4=>∃ acc,H4 D=some (.lst acc)/\acc.length < sizeLine/\Nx (upd H4 D (.lst (acc ++ [y]))) else Nx H3)
theorem lc_core {pins:List (Addr × Obj)} {s:Shared} {σ:St} {H:Hp} {Q:VK} {elt tg iter:Expr} {ifs:List Expr} {scope:Scope} {own:List (Str × Nat)} {pos pos':Pos} {wi:TI} {g:TG} {tt:TT} {te:TE} {use:Option (Value->Sem Unit)} {Qf:Value->Shared->Prop}
 (hc:X.calm=true) (hN:X.N.Nodup) (I:Inv X pins σ H s) (hi:PI X tg iter wi) (ok:BlkOk X.N X.env.scope scope own)
 (hg:∀ (s:Shared) (H:Hp) (C:Addr) (cl:List (Str × Addr)) (fp:List Addr),PG (X.blk s H scope (compEnvC scope cl C X.env) fp) tg g) (ht:∀ (s:Shared) (H:Hp) (C:Addr) (cl:List (Str × Addr)) (fp:List Addr),PTs (X.blk s H scope (compEnvC scope cl C X.env) fp) ifs tt)
 (he:∀ (s:Shared) (H:Hp) (C:Addr) (cl:List (Str × Addr)) (fp:List Addr),PE (X.blk s H scope (compEnvC scope cl C X.env) fp) elt te) (hs:∀ x,foldedSetIterable iter X.env x=pure x)
 (h:tLc wi g tt te (own.map (·.2)) σ H Q)
 (hRR:∀ D C s' m H',Inv X pins σ H' s'->Q (.ref D) H'->s'.heap.Ns C m->FpOk X pins H' C->compPost (model X.prog X.w) X.A X.xe use Qf (.ref D) C (.ok .next) s') :
 wpAny (model X.prog X.w) X.A (comprehension (.ListComp elt [⟨tg,iter,ifs,0⟩] scope pos) scope X.env pos' (newList []) false (eval iter X.env) use) Qf X.xe s:=by
 have hfree:∀ y ∈ scope.names,y.2 = .free->∃ c,X.env.cells.lookup y.1=some c:=fun y hy e=>by
  rcases ok.free y hy e with k | k
  . exact I.ok.has _ (.inl k)
  . exact I.ok.has _ (.inr k)
 refine wpAny_comprehension_free (use:=use) rfl hs (closure_ok hfree) ok.kind (fun y hy e=>by rw [ok.uniq y hy,e])
  (thn (hi pins s σ H _ I h) fun xv s1 hx=>thn hx fun itv s2 h2=>?_)
 obtain ⟨it,fp,tn,J,H2,e,I2,T,st2,f2,q⟩:=h2
 subst e
 refine wpAny_newObj_type (newEnv_comp ?_) (by show 0<=sizeLine; decide)
 generalize hD:s2.heap.objs.size=D
 have hDn:H2 D=none:=I2.hok.fresh (Nat.le_of_eq hD)
 obtain ⟨W,⟨m0,w0⟩,turn⟩:=q D hDn
 -- the new list
 generalize hs3:({ s2 with heap:=s2.heap.push { cls:=.type "list",data:=.seq ([]:List Value).toArray } }:Shared)=s3
 have I3:Inv X pins σ (upd H2 D (.lst [])) s3:=by
  rw [<- hs3]
  refine I2.laid (t':=s2.toks) (fun b o e=>Heap.get?_push_of_some _ e) (Nat.le_of_eq hD) ⟨Nat.zero_le _,[],0,.nil,?_⟩
  rw [<- hD]
  exact Heap.get?_push_size _ rfl
 have h3:s3.heap=s2.heap.push { cls:=.type "list",data:=.seq ([]:List Value).toArray }:=by rw [<- hs3]
 have sz:∀ b ∈ fp,b < s2.heap.objs.size:=fun b hb=>by
  obtain ⟨o,e,_⟩:=T.obj _ _ st2 b hb
  exact Heap.lt_size e
 have f3:∀ b ∈ fp,FpOk X pins (upd H2 D (.lst [])) b/\b < s3.heap.objs.size:=fun b hb=>by
  have hlt:=sz b hb
  refine ⟨⟨?_,(f2 b hb).2⟩,by rw [h3,Heap.size_push]; exact Nat.lt_succ_of_lt hlt⟩
  rw [upd_ne (by rw [<- hD]; exact Nat.ne_of_lt hlt)]
  exact (f2 b hb).1
 have st3:tn 0 s3.heap:=T.keep _ _ _ st2 fun b _ o e=>by rw [h3]; exact Heap.get?_push_of_some _ e
 have I4:=block_start I3 ok hN f3
 have pg:=hg s3 (upd H2 D (.lst [])) s3.heap.objs.size (cellsFrom (s3.heap.objs.size + 1) scope.names (cloFrom X.env.cells scope.names [])) fp
 have pt:=ht s3 (upd H2 D (.lst [])) s3.heap.objs.size (cellsFrom (s3.heap.objs.size + 1) scope.names (cloFrom X.env.cells scope.names [])) fp
 have pe:=he s3 (upd H2 D (.lst [])) s3.heap.objs.size (cellsFrom (s3.heap.objs.size + 1) scope.names (cloFrom X.env.cells scope.names [])) fp
 show codeAny _ _ (.compStart (.ListComp elt [⟨tg,iter,ifs,0⟩] scope pos) 0 (.ref it) (.ref D) (compEnvC scope (cellsFrom (s3.heap.objs.size + 1) scope.names (cloFrom X.env.cells scope.names [])) s3.heap.objs.size X.env)) (compPost (model X.prog X.w) X.A X.xe use Qf (.ref D) s3.heap.objs.size) { s3 with heap:=pushCells (s3.heap.push { cls:=.type "dict",data:=.dict #[] }) scope.names }
 have nfp:∀ b ∈ fp,(upd H2 D (.lst [])) b=none:=fun b hb=>(f3 b hb).1.1
 generalize hce:compEnvC scope (cellsFrom (s3.heap.objs.size + 1) scope.names (cloFrom X.env.cells scope.names [])) s3.heap.objs.size X.env=ce at I4 pg pt pe ⊢
 have cL:ce.locals=s3.heap.objs.size:=by subst hce; rfl
 generalize hH3:upd H2 D (.lst [])=H3 at I3 I4 pg pt pe w0 nfp f3
 generalize hs4:({ s3 with heap:=pushCells (s3.heap.push { cls:=.type "dict",data:=.dict #[] }) scope.names }:Shared)=s4 at I4 ⊢
 have st4:tn 0 s4.heap:=T.keep _ _ _ st3 fun b _ o e=>by rw [<- hs4]; exact pushCells_keeps _ _ _ _ (Heap.get?_push_of_some _ e)
 have stat:∀ {σ':St} {H':Hp} {s':Shared},Inv (X.blk s3 H3 scope ce fp) [] σ' H' s'->(∀ b ∈ fp,H' b=none)->∀ b ∈ fp,FpOk (X.blk s3 H3 scope ce fp) [] H' b:=fun {σ' H' s'} I' hn b hb=>
  ⟨hn b hb,(I'.ok.exf b hb).1,I'.ok.exfs b hb,.inl hb,fun x c e=>(I'.ok.exf b hb).2 x c e,fun p hp=>absurd (show p ∈ ([]:List (Addr × Obj)) ++ [] from hp) (by simp)⟩
 have loop:codeAny (model X.prog X.w) X.A (.compLoop (.ListComp elt [⟨tg,iter,ifs,0⟩] scope pos) 0 (.ref it) (.ref D) ce) (compPost (model X.prog X.w) X.A X.xe use Qf (.ref D) s3.heap.objs.size) s4:=by
  refine compLoop_any (fun n s'=>∃ i H',Inv (X.blk s3 H3 scope ce fp) [] (wipe σ (own.map (·.2))) H' s'/\tn i s'.heap/\(∀ b ∈ fp,H' b=none)/\W i n H') ?_ m0 ⟨0,H3,I4,st4,nfp,w0⟩
  rintro n s5 ⟨i,H5,I5,st5,n5,w5⟩
  rcases turn i n H5 w5 with ⟨stop,qq⟩ | ⟨go,Nx,hNx,step⟩
  . have td:=T.done (X.blk s3 H3 scope ce fp) rfl rfl rfl hc i [] s5 _ H5 (fun _ _=>False) I5 (stat I5 n5) st5 stop
    refine thnF td fun r s6 ⟨hr,I6⟩=>?_
    subst hr
    -- back in the def's context
    have I7:Inv X pins σ H5 s6:=I3.call' (ch:=fp) I6.os I6.base I6.hok I6.bare fun b hb=>⟨(f3 b hb).1.2.2.2.1,(f3 b hb).1.2.1,(f3 b hb).1.2.2.2.2.1,(f3 b hb).1.2.2.2.2.2⟩
    have nC:H5 s3.heap.objs.size=none:=by
     have z:H5 ce.locals=none:=I6.free
     rw [cL] at z
     exact z
    obtain ⟨m,hn,_⟩:=I6.loc
    have hn:s6.heap.Ns ce.locals m:=hn
    rw [cL] at hn
    exact hRR D s3.heap.objs.size s6 m H5 I7 qq hn (I3.fpOk (Nat.le_refl _) nC)
  . have ti:=T.item (X.blk s3 H3 scope ce fp) rfl rfl rfl hc i [] s5 _ H5 (fun _ _=>False) I5 (stat I5 n5) st5 go
    refine thnF ti fun r s6 ⟨u,hr,h6⟩=>?_
    subst hr
    refine thnF h6 fun _ s7 ⟨x,H7,I7,r7,y7,st7,n7⟩=>?_
    have I7':=I7.pinned (stat I7 n7) (T.obj _ _ st7)
    refine thnF (pg _ s7 _ H7 x u _ I7' r7 (step x H7 y7)) fun _ s8 ⟨σ8,H8,I8,hw8,q8⟩=>?_
    refine thnF (pt _ s8 σ8 H8 _ I8 q8) fun b s9 ⟨H9,I9,q9⟩=>?_
    -- the turn's end
    have fin:∀ {s':Shared} {H':Hp},Inv (X.blk s3 H3 scope ce fp) ([] ++ pinsAt fp s7.heap) σ8 H' s'->Nx H'->∃ m,m < n/\∃ i H',Inv (X.blk s3 H3 scope ce fp) [] (wipe σ (own.map (·.2))) H' s'/\tn i s'.heap/\(∀ b ∈ fp,H' b=none)/\W i m H':=fun {s' H'} I' nx=>by
     obtain ⟨m',hm,w'⟩:=hNx H' nx
     have pin':∀ b ∈ fp,∀ o,s7.heap.get? b=some o->s'.heap.get? b=some o/\H' b=none:=fun b hb o e=>
      let z:=I'.pin (b,o) (List.mem_append_right _ (List.mem_append_right _ (mem_pinsAt hb e)))
      ⟨z.1,z.2.1⟩
     have hl:(wipe σ (own.map (·.2))).length=σ8.length:=by rw [<- hw8,wipe_length]
     refine ⟨m',hm,i + 1,H',(I'.unpinned (pins:=[])).weak hl (fun j v e=>?_),T.keep _ _ _ st7 fun b hb o e=>(pin' b hb o e).1,fun b hb=>?_,w'⟩
     . rw [<- hw8] at e
       exact (wipe_some e).1
     . obtain ⟨o,e,_⟩:=T.obj _ _ st7 b hb
       exact (pin' b hb o e).2
    cases b with
    | false=>
     simp only [Bool.false_eq_true,if_false] at q9 ⊢
     exact fin I9 q9
    | true=>
     simp only [if_true] at q9 ⊢
     refine thnF (pe _ s9 σ8 H9 _ I9 q9) fun z s10 ⟨yv,H10,I10,r10,acc,hD10,hz10,nx⟩=>?_
     exact app_ok (X:=X.blk s3 H3 scope ce fp) I10 hD10 hz10 r10 fun s11 I11=>fin I11 nx
 exact codeAny_compStart_list loop (T.self X.A 0 _ _ _ st4 loop)
theorem pe_lc {elt tg iter:Expr} {ifs:List Expr} {scope:Scope} {own:List (Str × Nat)} {pos:Pos} {wi:TI} {g:TG} {tt:TT} {te:TE} (hc:X.calm=true) (hN:X.N.Nodup) (hi:PI X tg iter wi) (ok:BlkOk X.N X.env.scope scope own)
 (hg:∀ (s:Shared) (H:Hp) (C:Addr) (cl:List (Str × Addr)) (fp:List Addr),PG (X.blk s H scope (compEnvC scope cl C X.env) fp) tg g) (ht:∀ (s:Shared) (H:Hp) (C:Addr) (cl:List (Str × Addr)) (fp:List Addr),PTs (X.blk s H scope (compEnvC scope cl C X.env) fp) ifs tt)
 (he:∀ (s:Shared) (H:Hp) (C:Addr) (cl:List (Str × Addr)) (fp:List Addr),PE (X.blk s H scope (compEnvC scope cl C X.env) fp) elt te) (hs:∀ x,foldedSetIterable iter X.env x=pure x:=by intro _; rfl) :
 PE X (.ListComp elt [⟨tg,iter,ifs,0⟩] scope pos) (tLc wi g tt te (own.map (·.2))):=by
 intro pins s σ H Q I h
 rw [eval_ListComp]
 refine lc_core hc hN I hi ok hg ht he hs h fun D C s' m H' I' q hn f=>⟨m,hn,fun h'' sb=>?_⟩
 obtain ⟨f0,f1,f2,f3,f4,f5⟩:=f
 exact ⟨.ref D,H',I'.turned (t':=s'.toks) (fun b o hb e=>(sb.2 b hb).trans e) f0 f1 f3 f4 f5,rfl,q⟩
theorem ps_setLc {i:Nat} {y:Str} {py:Pos} {elt tg iter:Expr} {ifs:List Expr} {scope:Scope} {own:List (Str × Nat)} {pos spos:Pos} {wi:TI} {g:TG} {tt:TT} {te:TE} (hc:X.calm=true) (hN:X.N.Nodup) (hy:X.N[i]? = some y) (hyl:X.env.scope.names.lookup y=some .local)
 (hsw:swapsWith (.ListComp elt [⟨tg,iter,ifs,0⟩] scope pos) (some (.Name y py)) spos.line X.env=pure true) (hi:PI X tg iter wi) (ok:BlkOk X.N X.env.scope scope own)
 (hg:∀ (s:Shared) (H:Hp) (C:Addr) (cl:List (Str × Addr)) (fp:List Addr),PG (X.blk s H scope (compEnvC scope cl C X.env) fp) tg g) (ht:∀ (s:Shared) (H:Hp) (C:Addr) (cl:List (Str × Addr)) (fp:List Addr),PTs (X.blk s H scope (compEnvC scope cl C X.env) fp) ifs tt)
 (he:∀ (s:Shared) (H:Hp) (C:Addr) (cl:List (Str × Addr)) (fp:List Addr),PE (X.blk s H scope (compEnvC scope cl C X.env) fp) elt te) (hs:∀ x,foldedSetIterable iter X.env x=pure x:=by intro _; rfl) :
 PS X (.Assign [.Name y py] (.ListComp elt [⟨tg,iter,ifs,0⟩] scope pos) spos) (tAsg (tLc wi g tt te (own.map (·.2))) (gName i)):=by
 intro pins s σ H D I h
 rw [exec_Assign_Name_used _ _ _ _ hsw]
 refine wpAny_bind (wpAny_standAt (wpAny_bind ?_))
 show wpAny _ X.A (do let _ <- comprehension (.ListComp elt [⟨tg,iter,ifs,0⟩] scope pos) scope X.env (firstIterPos [⟨tg,iter,ifs,0⟩] pos) (newList []) false (eval iter X.env) (some (assign (.Name y py) X.env))) _ _ s
 have h:tLc wi g tt te (own.map (·.2)) σ H (fun x H1=>gName i x σ H1 D.nx):=h
 refine wpAny_bind (thn (lc_core (Qf:=fun _ s'=>SP X pins D .next s') hc hN I hi ok hg ht he hs h fun L C s' m H' I' q hn f=>?_) fun _ s' hq=>wpAny_pure (wpAny_pure hq))
 show wpAny _ _ (assign (.Name y py) X.env (.ref L)) _ _ _
 refine wpAny_assign_Name (store_ok2 (v:=V.ref L) I' hN hy (.inl hyl) rfl (fun s2 I2 ⟨a,sb,ha⟩=>?_) (.inr hyl))
 obtain ⟨f0,f1,f2,f3,f4,f5⟩:=f
 have haC:C ≠ a:=by
  rcases ha with z | z
  . rw [z]; exact f1
  . exact fun e=>f4 y a z e.symm
 refine ⟨m,hn.sameBut sb haC,fun h3 sb3=>?_⟩
 exact ⟨_,H',I2.turned (t':=s2.toks) (fun b o hb e=>(sb3.2 b hb).trans e) f0 f1 f3 f4 f5,q⟩
theorem sw_true {elt:Expr} {gs:List Comprehension} {scope:Scope} {pos py:Pos} {y:Str} {l:Nat} {env:Env} (hk:env.scope.kind = .function) (hy:env.scope.names.lookup y=some .local) (hl:(py.line == pos.line)=true)
 (ha:(scope.names.any fun (n,k)=>n == y && (k == .local || k == .cell))=false):swapsWith (.ListComp elt gs scope pos) (some (.Name y py)) l env=pure true:=by
 have ky:env.kindOf y=some .local:=hy
 have hb:env.blockKind = .function:=by unfold Env.blockKind; rw [hk]; rfl
 unfold swapsWith
 simp only [hb,ky,ha,Expr.pos,hl]
 rfl
end
theorem lc_tup {K:PySem.W.Frag} {a:Addr} {xs:List V} {g:TG} {tt:TT} {te:TE} {vs:List Nat} {σ:St} {H1:Hp} {D:Addr} {Qd:Hp->Prop} (Pv:Nat->Hp->Prop) (h0:Pv 0 (upd H1 D (.lst []))) (hl:∀ i H,i<=xs.length->Pv i H->SqT K H a xs)
 (hs:∀ i x H,xs[i]? = some x->Pv i H->g x (wipe σ vs) H fun σ2 H2=>wipe σ2 vs=wipe σ vs/\tt σ2 H2 fun b H3=>
  if b=true then te σ2 H3 fun y H4=>∃ acc,H4 D=some (.lst acc)/\acc.length < sizeLine/\Pv (i + 1) (upd H4 D (.lst (acc ++ [y]))) else Pv (i + 1) H3) (hd:∀ H,Pv xs.length H->Qd H) :
 ∃ W:Nat->Nat->Hp->Prop,(∃ m,W 0 m (upd H1 D (.lst [])))/\∀ i m H,W i m H ->
  ((Itt K a).stop i H/\Qd H) \/ ((Itt K a).go i H/\∃ Nx:Hp->Prop,(∀ H',Nx H'->∃ m',m' < m/\W (i + 1) m' H')/\∀ x H',(Itt K a).yld i H x H'->g x (wipe σ vs) H' fun σ2 H2=>wipe σ2 vs=wipe σ vs/\tt σ2 H2 fun b H3=>
   if b=true then te σ2 H3 fun y H4=>∃ acc,H4 D=some (.lst acc)/\acc.length < sizeLine/\Nx (upd H4 D (.lst (acc ++ [y]))) else Nx H3):=by
 refine ⟨fun i m H=>m=xs.length - i/\i<=xs.length/\Pv i H,⟨xs.length,by simp,Nat.zero_le _,h0⟩,?_⟩
 rintro i m H ⟨rfl,hi,p⟩
 have q:=hl i H hi p
 by_cases hlt:i < xs.length
 . refine .inr ⟨⟨xs,xs[i],q,by simp [hlt]⟩,Pv (i + 1),fun H' p'=>⟨xs.length - (i + 1),by omega,rfl,hlt,p'⟩,fun x H' y=>?_⟩
   obtain ⟨e,y⟩:=y
   subst e
   exact hs i x _ (y xs q) p
 . have e:i=xs.length:=by omega
   subst e
   exact .inl ⟨⟨xs,q,Nat.le_refl _⟩,hd H p⟩
def blkC (N:List Str) (sc scope:Scope) (own:List (Str × Nat)):Bool:=
 (match scope.kind with | .function=>true | _=>false) && (scope.names.all fun y=>decide (scope.names.lookup y.1=some y.2)) && (own.all fun p=>decide (N[p.2]? = some p.1)) &&
  (scope.names.all fun y=>match y.2 with
   | .free=>(match sc.names.lookup y.1 with | some .cell=>true | some .free=>true | _=>false)
   | .local=>decide (y.1 ∈ own.map (·.1)) || decide (y.1 ∉ N)
   | .cell=>decide (y.1 ∈ own.map (·.1)) || decide (y.1 ∉ N)
   | _=>true)
theorem blkOk_by {N:List Str} {sc scope:Scope} {own:List (Str × Nat)} (h:blkC N sc scope own=true):BlkOk N sc scope own:=by
 unfold blkC at h
 simp only [Bool.and_eq_true,List.all_eq_true,decide_eq_true_eq] at h
 obtain ⟨⟨⟨h1,h2⟩,h3⟩,h4⟩:=h
 refine ⟨?_,h2,h3,fun y hy e=>?_,fun y hy e=>?_⟩
 . split at h1
   . assumption
   . cases h1
 . have q:=h4 y hy
   simp only [e] at q
   split at q <;> first | exact .inl (by assumption) | exact .inr (by assumption) | cases q
 . have q:=h4 y hy
   rcases e with e | e <;> (simp only [e,Bool.or_eq_true,decide_eq_true_eq] at q; exact q)
end L2
namespace L2
open PySem PySem.Spec PyProof.Rows
section
variable {κ:Type} [DecidableEq κ]
def valV (kvs:List (κ × V)) (k:κ):Option V:=(kvs.find? fun kv=>decide (kv.1=k)).map (·.2)
theorem valV_pos {p:κ × V} {r:List (κ × V)} {k:κ} (e:p.1=k):valV (p :: r) k=some p.2:=by simp [valV,List.find?_cons,e]
theorem valV_neg {p:κ × V} {r:List (κ × V)} {k:κ} (e:¬ p.1=k):valV (p :: r) k=valV r k:=by simp [valV,List.find?_cons,e]
theorem RelO.isSome_eq {o:Option V} {u:Option Value} (r:RelO o u):o.isSome=u.isSome:=by
 cases o with
 | none=>cases u with
  | none=>rfl
  | some _=>exact (show False from r).elim
 | some _=>cases u with
  | none=>exact (show False from r).elim
  | some _=>rfl
theorem KV.val {kvs:List (κ × V)} {vs:List (κ × Value)} (r:KV kvs vs) (k:κ):RelO (valV kvs k) (valueAt vs k):=by
 unfold KV at r
 induction r with
 | nil=>exact True.intro
 | @cons p q ps qs h t ih=>
  obtain ⟨h1,h2⟩:=h
  by_cases e:p.1=k
  . have e':q.1=k:=h1.symm.trans e
    have b:valueAt (q :: qs) k=some q.2:=by simp [valueAt,List.find?_cons,e']
    rw [valV_pos e,b]; exact h2
  . have e':¬ q.1=k:=fun z=>e (h1.trans z)
    have b:valueAt (q :: qs) k=valueAt qs k:=by simp [valueAt,List.find?_cons,e']
    rw [valV_neg e,b]; exact ih
end
theorem kV_is {P:Program} {w:World} {k:Key} {u:Value} (r:RelV (kV k) u):(mixKind P w).is k u=true:=by
 cases k with
 | inl i=>obtain ⟨t,e⟩:=(show ∃ t,u=Value.int i t from r); subst e; exact mixKind_int P w i t
 | inr x=>obtain ⟨t,e⟩:=(show ∃ t,u=Value.str x t from r); subst e; exact mixKind_str P w x t
def NoSl (i:Expr):Prop:=∀ ov iv,subscripted i false ov iv=operate [ov,iv] (getItem ov iv)
theorem subD_of {prog:Program} {w:World} {A:Around} {E:Value->Shared->Prop} {s:Shared} {env:Env} {value slice:Expr} {pos:Pos} {T id:String} {Q:Value->Shared->Prop}
 (hl:typeLookup (.type T) "__getitem__" = pure (some (.builtin id))) (hs:NoSl slice)
 (h:wpAny (model prog w) A (eval value env) (fun o s₁=>wpAny (model prog w) A (eval slice env) (fun i s₂=>s₂.TypeIs o T/\wpAny (model prog w) A (getItem o i) Q E s₂) E s₁) E s) :
 wpAny (model prog w) A (eval (.Subscript value slice pos) env) Q E s:=by
 refine Subscript_ (wpAny_mono h (fun o s₁ h₁=>wpAny_mono h₁ (fun i s₂ h₂=>?_) fun _ _ x=>x) fun _ _ x=>x)
 obtain ⟨hT,h₂⟩:=h₂
 unfold subscriptTail
 refine wpAny_bind ?_
 rw [getitemInPython_of_ne hT.not_modules]
 refine wpAny_bind (wpAny_specialOf hT hl ?_)
 have fin:wpAny (model prog w) A (subscripted slice false o i) (fun r s₃=>wpAny (model prog w) A (letTemporaryGo value o r >>= fun _=>pure r) Q E s₃) E s₂:=by
  rw [hs o i]
  exact wpAny_operating (wpAny_mono h₂ (fun r s₃ h₃=>wpAny_bind (wpAny_letTemporaryGo (wpAny_pure h₃))) fun _ _ x=>x)
 first
  | exact wpAny_pure (wpAny_bind fin)
  | exact wpAny_bind (wpAny_pure (wpAny_bind fin))
  | exact wpAny_bind fin
end L2
namespace L2
open PySem PySem.Spec PyProof.Rows
theorem boot_reversed5:bootBuiltins "reversed" = some (.type "reversed"):=by decide +kernel
section
variable {X:Cx}
theorem pi_one {tg:Expr} {pins:List (Addr × Obj)} {σ:St} {H:Hp} {s:Shared} {R:It->Hp->Prop} {J:It} {tn:Nat->Heap->Prop} {tk:Nat} (I:Inv X pins σ H s) (o:Obj)
 (T:Turn X.prog X.w X.K tg J [s.heap.objs.size] s.heap.objs.size tn) (st:tn 0 (s.heap.push o)) (q:R J H):PIE X pins σ tg R (.ref s.heap.objs.size) { s with heap:=s.heap.push o,toks:=tk }:=by
 refine ⟨s.heap.objs.size,[s.heap.objs.size],tn,J,H,rfl,I.kept fun b ob e=>Heap.get?_push_of_some _ e,T,st,fun b hb=>?_,q⟩
 have e:b=s.heap.objs.size:=by simpa using hb
 subst e
 exact I.fpOk (Nat.le_refl _) (I.hok.fresh (Nat.le_refl _))
end
def Itv (K:PySem.W.Frag) (a:Addr) (n:Nat):It:=
 ⟨fun i H=>i < n/\∃ (xs:List V) (x:V),SqL K H a xs/\xs[n - 1 - i]? = some x,fun i H x H'=>H'=H/\∀ xs,SqL K H a xs->xs[n - 1 - i]? = some x,fun i _=>n<=i⟩
theorem turn_rev {P:Program} {w:World} {K:PySem.W.Frag} {tg:Expr} (a it:Addr) (n:Nat):Turn P w K tg (Itv K a n) [it] it (fun i h=>i<=n/\h.IsRevIter it a ((n:Int) - 1 - (i:Nat))) where
 mem:=by simp
 obj:=fun i h st b hb=>by
  have e:b=it:=by simpa using hb
  subst e
  obtain ⟨_,o,e,c,d⟩:=st
  exact ⟨o,e,fun v z=>by rw [d] at z; cases z⟩
 keep:=fun i h h' st k=>⟨st.1,st.2.at fun o e=>k it (by simp) o e⟩
 item:=by
  intro X hP hw hK hc i pins s σ H E I hf st hg
  subst hP hw hK
  obtain ⟨hin,xs,x,hq,hx⟩:=hg
  obtain ⟨its,rv,p,hz⟩:=I.list hq
  obtain ⟨u,hu,ru⟩:=rv.get hx
  obtain ⟨f0,f1,f2,f3,f4,f5⟩:=hf it (by simp)
  obtain ⟨_,hit⟩:=st
  have e1:(n:Int) - 1 - ((i:Nat):Int)=((n - 1 - i:Nat):Int):=by omega
  rw [e1] at hit
  refine wpAny_pyNext_rev_item hit p.isList (x:=u) (by simpa using hu) fun h' st' sb=>?_
  have e2:((n - 1 - i:Nat):Int) - 1=(n:Int) - 1 - ((i + 1:Nat):Int):=by omega
  rw [e2] at st'
  have I1:Inv X pins σ H { s with heap:=h' }:=I.turned (t':=s.toks) (fun b o hb e=>(sb.2 b hb).trans e) f0 f1 f3 f4 f5
  obtain ⟨o,e,c,d⟩:=id st'
  exact ⟨u,rfl,go_of (s:={ s with heap:=h' }) e c d (by decide) ⟨x,H,I1,ru,⟨rfl,fun ys hy=>by rw [I.list_inj hy hq]; exact hx⟩,⟨hin,st'⟩,fun b hb=>(hf b hb).1⟩⟩
 done:=by
  intro X hP hw hK hc i pins s σ H E I hf st hg
  subst hP hw hK
  obtain ⟨f0,f1,f2,f3,f4,f5⟩:=hf it (by simp)
  obtain ⟨hin,hit⟩:=st
  have hge:n<=i:=hg
  have e1:(n:Int) - 1 - ((i:Nat):Int) = -1:=by omega
  rw [e1] at hit
  exact wpAny_pyNext_rev_end (I.ok.hd hc) hit fun h' eb=>⟨rfl,I.turned (t':=s.toks) (fun b o hb e=>eb b o hb e) f0 f1 f3 f4 f5⟩
 self:=fun A i s Q E st h=>wpAny_pyIter_revIter st.2 h
def iRev (K:PySem.W.Frag) (ta:TA):TI:=fun σ H R=>ta σ H fun vs H1=>∃ (a:Addr) (xs:List V),vs=[.ref a]/\SqL K H1 a xs/\R (Itv K a xs.length) H1
section
variable {X:Cx} {tg:Expr}
theorem pi_reversed {e:Expr} {ta:TA} {p pos:Pos} (hg:Gl X "reversed") (hm:X.mg "reversed" = none) (ha:PA X [e] ta) (hs:starEach [e] X.env=[(false,eval e X.env)]:=by rfl):PI X tg (.Call (.Name "reversed" p) [e] [] pos) (iRev X.K ta):=by
 intro pins s σ H R I h
 refine Call_ (ld_blt I hg hm boot_reversed5 (PyProof.Rows.callWith_type1 (thn (ha pos pins s σ H _ I h) fun us s1 ⟨vs,H1,I1,r1,q1⟩=>?_) hs rfl))
 obtain ⟨a,xs,e,hq,q⟩:=q1
 subst e
 cases r1 with
 | cons r rr=>
  cases rr
  cases r
  obtain ⟨its,rv,p',hz⟩:=I1.list hq
  have hl:=rv.length
  have e1:((its.toArray.size:Nat):Int) - 1=(xs.length:Int) - 1 - ((0:Nat):Int):=by simp only [List.size_toArray]; omega
  refine call_reversed_list p'.isList (wpAny_pyIter_revIter (l:=a) (i:=((its.toArray.size:Nat):Int) - 1) ⟨_,Heap.get?_push_size _ rfl,rfl,rfl⟩ ?_)
  refine pi_one (tk:=s1.toks) I1 _ (turn_rev a _ xs.length) ⟨Nat.zero_le _,?_⟩ q
  rw [<- e1]
  exact ⟨_,Heap.get?_push_size _ rfl,rfl,rfl⟩
end
def Its (x:Str):It:=⟨fun i _=>i < x.cps.size,fun i H v H'=>H'=H/\∃ c,x.cps[i]? = some c/\v = .str ⟨#[c]⟩,fun i _=>x.cps.size<=i⟩
theorem turn_str {P:Program} {w:World} {K:PySem.W.Frag} {tg:Expr} (it:Addr) (x:Str) (t:Tok) (ty:String) (hty:ty = "str_ascii_iterator" \/ ty = "str_iterator") :
 Turn P w K tg (Its x) [it] it (fun i h=>h.IsStrIter it ty x t i) where
 mem:=by simp
 obj:=fun i h st b hb=>by
  have e:b=it:=by simpa using hb
  subst e
  obtain ⟨o,e,c,d⟩:=st
  exact ⟨o,e,fun v z=>by rw [d] at z; cases z⟩
 keep:=fun i h h' st k=>let ⟨o,ho,r⟩:=st; ⟨o,k it (by simp) o ho,r⟩
 item:=by
  intro X hP hw hK hc i pins s σ H E I hf st hg
  subst hP hw hK
  obtain ⟨f0,f1,f2,f3,f4,f5⟩:=hf it (by simp)
  have W:Walks X.prog X.w X.A it [it] [it] x.cps.size (SignAt x) (fun i h=>h.IsStrIter it ty x t i):=by
   rcases hty with e | e
   . rw [e]; exact Walks.strAscii (I.ok.hd hc) it x t
   . rw [e]; exact Walks.strWide (I.ok.hd hc) it x t
  have hno:["enumerate","zip","dict_itemiterator","dict_reverseitemiterator","odict_iterator","itertools.zip_longest","itertools.pairwise"].contains ty=false:=by
   rcases hty with e | e
   . rw [e]; decide
   . rw [e]; decide
  refine W.item i s _ _ hg st fun v h' tk hv st' kk=>?_
  obtain ⟨c,u,hcx,rfl⟩:=hv
  have I1:Inv X pins σ H { s with heap:=h',toks:=tk }:=I.turned (fun b o hb e=>kk b o (by simpa using hb) e) f0 f1 f3 f4 f5
  obtain ⟨oi,e,cc,dd⟩:=id st'
  exact ⟨_,rfl,go_of (s:={ s with heap:=h',toks:=tk }) e cc dd hno ⟨.str ⟨#[c]⟩,H,I1,⟨u,rfl⟩,⟨rfl,c,hcx,rfl⟩,st',fun b hb=>(hf b hb).1⟩⟩
 done:=by
  intro X hP hw hK hc i pins s σ H E I hf st hg
  subst hP hw hK
  obtain ⟨f0,f1,f2,f3,f4,f5⟩:=hf it (by simp)
  have hx:x.cps[i]? = none:=Array.getElem?_eq_none hg
  rcases hty with e | e
  . rw [e] at st
    exact wpAny_pyNext_ascii_end (I.ok.hd hc) st hx fun h' eb=>⟨rfl,I.turned (t':=s.toks) (fun b o hb e=>eb b o hb e) f0 f1 f3 f4 f5⟩
  . rw [e] at st
    exact wpAny_pyNext_wide_end (I.ok.hd hc) st hx fun h' eb=>⟨rfl,I.turned (t':=s.toks) (fun b o hb e=>eb b o hb e) f0 f1 f3 f4 f5⟩
 self:=fun A i s Q E st h=>by
  rcases hty with e | e
  . rw [e] at st; exact wpAny_pyIter_striter_ascii st h
  . rw [e] at st; exact wpAny_pyIter_striter_wide st h
def iStr (te:TE):TI:=fun σ H R=>te σ H fun v H1=>∃ x,v = .str x/\R (Its x) H1
theorem pi_str {X:Cx} {tg e:Expr} {te:TE} (he:PE X e te):PI X tg e (iStr te):=by
 intro pins s σ H R I h
 refine thn (he pins s σ H _ I h) fun v s1 ⟨y,H1,I1,r1,x,ex,q⟩=>?_
 subst ex
 obtain ⟨t,rfl⟩:=r1
 cases ha:x.cps.all (· < 128)
 . exact wpAny_pyIter_wide ha (pi_one (tk:=s1.toks) I1 _ (turn_str _ x t "str_iterator" (.inr rfl)) ⟨_,Heap.get?_push_size _ rfl,rfl,rfl⟩ q)
 . exact wpAny_pyIter_ascii ha (pi_one (tk:=s1.toks) I1 _ (turn_str _ x t "str_ascii_iterator" (.inl rfl)) ⟨_,Heap.get?_push_size _ rfl,rfl,rfl⟩ q)
end L2
section
namespace Bits
open PySem PyProof.Rows
theorem bitOr_pp {x y:Int} (hx:0<=x) (hy:0<=y):Builtin.bitOr x y=((x.toNat ||| y.toNat:Nat):Int):=by
 have e:=nat_or_add_and x.toNat y.toNat
 rw [bitOr_and,bitAnd_pp hx hy]
 omega
end Bits
end
section
namespace TL
open PySem PySem.Builtin PySem.Builtin.Str PySem.StrLaws
abbrev tl (x:Str):List Nat:=x.cps.toList
theorem len_tl (x:Str):x.length=(tl x).length:=by simp [tl,Str.length]
theorem tl_append (x y:Str):tl (x ++ y)=tl x ++ tl y:=by
 show (x ++ y).cps.toList=_
 rw [Str.cps_append,Array.toList_append]
theorem join_eq (y:Str) (parts:List Str):Txt.join y parts=Str.join y parts:=glued_eq_join y parts
end TL
end
namespace L2
open PySem PySem.Spec PyProof.Rows
theorem strs_of_vals:∀ {ys:List Str} {us:List Value},Vals (ys.map V.str) us->StrsAre us ys
 | [],_,.nil=>.nil
 | y :: ys,_,.cons r t=>by
  obtain ⟨k,rfl⟩:=r
  exact .cons y k (strs_of_vals t)
section
variable {X:Cx}
theorem mt_join:MtR X "str.join" (fun x xs H Q=>∃ a p,∃ ys:List Str,x = .str a/\xs=[.ref p]/\(SqL X.K H p (ys.map V.str) \/ SqT X.K H p (ys.map V.str)) /\
 (ys.map (·.length)).sum + ys.length * a.length<=16777216/\Q (.str (Txt.join a ys)) H):=by
 intro pins s σ H x xs v us Q I rx rs h
 obtain ⟨a,p,ys,rfl,rfl,hp,hz,h⟩:=h
 obtain ⟨t,rfl⟩:=rx
 cases rs with
 | cons r1 rs=>
  cases rs
  cases r1
  rcases hp with hp | hp
  . obtain ⟨its,r,⟨o,n,ho,hc,_,hd⟩,_⟩:=I.list hp
    exact PyProof.Rows.join_list (items:=its.toArray) ⟨o,ho,hc,n,hd⟩ (by rw [List.toList_toArray]; exact strs_of_vals r) hz fun t' k=>⟨.str _,H,I.tok k,⟨t',rfl⟩,h⟩
  . obtain ⟨its,r,ht,_⟩:=I.tuple hp
    exact PyProof.Rows.join_tuple (items:=its.toArray) ht (by rw [List.toList_toArray]; exact strs_of_vals r) hz fun t' k=>⟨.str _,H,I.tok k,⟨t',rfl⟩,h⟩
end
section
variable {X:Cx} {o e:Expr} {to te:TE}
def tM1 (r:V->List V->Hp->VK->Prop) (to te:TE):TE:=fun σ H Q=>to σ H fun x H1=>(∃ a,x = .str a)/\te σ H1 fun y H2=>r x [y] H2 Q
theorem pe_m1 {id:String} {name:Str} {apos pos:Pos} {r:V->List V->Hp->VK->Prop} (slot:Slot "str" name id) (ty:typeOf (.builtin id)=pure (.type "method_descriptor")) (rule:MtR X id r) (ho:PE X o to) (he:PE X e te)
 (hs:starEach [e] X.env=[(false,eval e X.env)]:=by rfl) (hbase:attributeBase o name X.env (eval o X.env)=eval o X.env:=by rfl) (hline:(apos.endLine == pos.line)=true:=by rfl) :
 PE X (.Call (.Attribute o name apos) [e] [] pos) (tM1 r to te):=by
 intro pins s σ H Q I h
 refine PySem.Call_method1 hbase hs hline (thn (ho pins s σ H _ I h) fun v s1 ⟨x,H1,I1,r1,q1⟩=>?_)
 obtain ⟨⟨a,rfl⟩,q1⟩:=q1
 obtain ⟨t,rfl⟩:=_root_.id r1
 refine ⟨"str",_,F.plainAttrs_str,slot,ty,typeIs_str _ _ _,(fun _ e=>nomatch e),Calls.callWith_builtin rfl (Calls.evalArgs_plain (Calls.spliced_cons ?_))⟩
 exact thn (he pins s1 σ H1 _ I1 q1) fun u s2 ⟨y,H2,I2,r2,q2⟩=>Calls.spliced_nil (rule pins s2 σ H2 _ [y] _ [u] Q I2 r1 (.cons r2 .nil) q2)
theorem pe_join {apos pos:Pos} (ho:PE X o to) (he:PE X e te) (hs:starEach [e] X.env=[(false,eval e X.env)]:=by rfl) (hbase:attributeBase o "join" X.env (eval o X.env)=eval o X.env:=by rfl) (hline:(apos.endLine == pos.line)=true:=by rfl) :
 PE X (.Call (.Attribute o "join" apos) [e] [] pos) (tM1 (fun x xs H Q=>∃ a p,∃ ys:List Str,x = .str a/\xs=[.ref p]/\(SqL X.K H p (ys.map V.str) \/ SqT X.K H p (ys.map V.str)) /\
  (ys.map (·.length)).sum + ys.length * a.length<=16777216/\Q (.str (Txt.join a ys)) H) to te):=
 pe_m1 F.slot_str_join F.type_str_join mt_join ho he hs hbase hline
end
end L2
namespace L2
open PySem PySem.Spec PyProof.Rows
def inClass (s:Stmt) (j:Nat):Stmt:=match s with
 | .ClassDef _ _ _ body _ _ _ _ _ _ _=>body.getD j (.Pass ⟨0,0,0,0⟩)
 | _=>.Pass ⟨0,0,0,0⟩
def defArgs (s:Stmt):Arguments:=match s with
 | .FunctionDef _ a _ _ _ _ _ _ _ _=>a
 | _=>{ posonlyargs:=[],args:=[],vararg:=none,kwonlyargs:=[],kw_defaults:=[],kwarg:=none,defaults:=[] }
def defBody (s:Stmt):List Stmt:=match s with
 | .FunctionDef _ _ b _ _ _ _ _ _ _=>b
 | _=>[]
def defScope (s:Stmt):Scope:=match s with
 | .FunctionDef _ _ _ _ _ _ sc _ _ _=>sc
 | _=>{ kind:=.function,names:=[],isGenerator:=false,isCoroutine:=false }
abbrev CX0:CXT:=fun _ _ _ _ _ _=>False
abbrev E0:XK:=fun _ _ _=>False
theorem pass0 {X:Cx}:Passes CX0 X E0:=fun _ _ _ _ _ _ _ h=>h.elim
structure Fun (K:PySem.W.Frag) (x qual:Str) (st:Stmt) (f:Addr) (fd:FuncData):Prop where
 ex:∃ (oc:Value) (od:Option Addr) (kV doc pm:Value) (an:Option Addr) (cdv ct:Value) (osl:Array (Option Value)),
  fd=PySem.W.fnOf x qual (defArgs st) (defBody st) (defScope st) .none kV doc pm an cdv ct/\K.lookup f=some ⟨oc,od,.func fd,osl⟩/\PySem.W.codeIn K cdv qual=true
 kp:PySem.W.keepIn K (.ref f)=true
section
variable {P:Program} {w:World} {K:PySem.W.Frag} {mg:Str->Option Value} {base:Heap}
theorem Fun.ok {x qual:Str} {st:Stmt} {f:Addr} {fd:FuncData} {N ps:List Str} {k:Nat} {sp:Sp} (F:Fun K x qual st f fd) (S:FnScope N ps (defScope st)) (len:∀ vs H Q E,sp vs H Q E->vs.length=ps.length)
 (hbody:∀ (cdv:Value) (A:Around) (outer:List Env) (s:Shared) (H:Hp) (vs:List V) (Q:VK) (E:XK),Room k (A.deeper (envOfC qual (defScope st) s.heap.objs.size f cdv))->sp vs H Q E ->
  ∃ t,PSs (cxOf CX0 P w K mg base N qual (defScope st) f cdv A outer s H E).nox (defBody st) t/\t { nx:=fun _ H'=>Q .non H',rt:=Q } (start N vs) H):FnOk P w K mg base CX0 (k + 1) f fd ps sp:=by
 obtain ⟨oc,od,kV,doc,pm,an,cdv,ct,osl,rfl,lk,hcd⟩:=F.ex
 refine fn_of lk hcd S len fun A outer s H vs Q E hr hsp=>?_
 obtain ⟨t,h,q⟩:=hbody cdv A outer s H vs Q E hr hsp
 exact ⟨t,h.nox,q⟩
theorem fun_mk {x qual:Str} {st:Stmt} {f:Addr} {oc:Value} {od an:Option Addr} {osl:Array (Option Value)} {kV doc pm cdv ct:Value} (l:K.lookup f=some ⟨oc,od,.func (PySem.W.fnOf x qual (defArgs st) (defBody st) (defScope st) .none kV doc pm an cdv ct),osl⟩)
 (c:PySem.W.codeIn K cdv qual=true) (k:PySem.W.keepIn K (.ref f)=true):Fun K x qual st f (PySem.W.fnOf x qual (defArgs st) (defBody st) (defScope st) .none kV doc pm an cdv ct):=⟨⟨oc,od,kV,doc,pm,an,cdv,ct,osl,rfl,l,c⟩,k⟩
end
section
variable {X:Cx}
theorem pv (i:Nat) {x:Str} {pos:Pos} (hN:X.N[i]? = some x:=by rfl) (hv:Vis X.env.scope x:=by first | exact Or.inl rfl | exact Or.inr (Or.inl rfl) | exact Or.inr (Or.inr rfl)) (hd:(x == ("__debug__" : Str))=false:=by decide)
 (hcd:(x == ("__classdict__" : Str))=false:=by decide):PE X (.Name x pos) (tVar i):=pe_var hN hv hd hcd
end
theorem iteF {A B:Prop} (h:B):if false=true then A else B:=by
 rw [if_neg Bool.false_ne_true]
 exact h
theorem iteT {A B:Prop} (h:A):if true=true then A else B:=by
 rw [if_pos rfl]
 exact h
theorem ite2 {c A B:Prop} [Decidable c] (h1:c->A) (h2:¬ c->B):if c then A else B:=by
 by_cases h:c
 . rw [if_pos h]
   exact h1 h
 . rw [if_neg h]
   exact h2 h
def Same (H H':Hp):Prop:=∀ b o,H b=some o->H' b=some o
theorem Same.refl (H:Hp):Same H H:=fun _ _ h=>h
theorem Same.trans {H H1 H2:Hp} (a:Same H H1) (b:Same H1 H2):Same H H2:=fun c o h=>b c o (a c o h)
theorem Same.seq {K:PySem.W.Frag} {H H':Hp} {a:Addr} {xs:List V} (e:Same H H') (h:SqL K H a xs):SqL K H' a xs:=by
 rcases h with (h | ⟨o,h⟩) | h
 . exact .inl (.inl (e _ _ h))
 . exact .inl (.inr ⟨o,e _ _ h⟩)
 . exact .inr h
theorem Same.made {H H1:Hp} {x dx C:Addr} (nx:H x=Option.none) (nd:H dx=Option.none) (k:∀ b o,(upd (upd H dx (.own x)) x (.ins C dx [])) b=some o->b ≠ x->H1 b=some o):Same H H1:=fun b o e=>
 k b o (by rw [upd_ne (ne_of_none e nx),upd_ne (ne_of_none e nd)]; exact e) (ne_of_none e nx)
end L2
end
section
section
namespace L2
open PySem PySem.Spec PyProof.Rows
open PySem.W (WData Codec OpenSpec Well WellAll ReadsW ReadsAllW)
mutual
/-- x stands for the datum d,lists and tuples all the way -/
inductive Dw (K:PySem.W.Frag) (H:Hp):V->WData->Prop
 | non:Dw K H .non .none
 | bl (b:Bool):Dw K H (.bl b) (.bool b)
 | int (i:Int):Dw K H (.int i) (.int i)
 | str (x:Str):Dw K H (.str x) (.str x)
 | byt (b:Array UInt8):Dw K H (.byt b) (.bytes b.toList)
 | lst {a:Addr} {xs:List V} {ds:List WData}:SqL K H a xs->DwAll K H xs ds->Dw K H (.ref a) (.list ds)
 | tup {a:Addr} {xs:List V} {ds:List WData}:SqT K H a xs->DwAll K H xs ds->Dw K H (.ref a) (.tuple ds)
inductive DwAll (K:PySem.W.Frag) (H:Hp):List V->List WData->Prop
 | nil:DwAll K H [] []
 | cons {v:V} {vs:List V} {d:WData} {ds:List WData}:Dw K H v d->DwAll K H vs ds->DwAll K H (v :: vs) (d :: ds)
end
theorem dw_ints {K:PySem.W.Frag} {H:Hp}:∀ ns:List Int,DwAll K H (ns.map V.int) (ns.map WData.int)
 | []=>.nil
 | n :: r=>.cons (.int n) (dw_ints r)
theorem ints_dw {K:PySem.W.Frag} {H:Hp}:∀ (ns:List Int) (xs:List V),DwAll K H xs (ns.map WData.int)->xs=ns.map V.int
 | [],xs,h=>by
  cases h
  rfl
 | n :: r,xs,h=>by
  cases h with
  | cons h1 h2=>
   cases h1
   rw [ints_dw r _ h2] <;> rfl
section
variable {P:Program} {w:World} {K:PySem.W.Frag} {H:Hp} {h:Heap} {R:PySem.W.WRecords} {cl:Str->Option Addr}
theorem sqL_at {a:Addr} {xs:List V} (hok:HOk P w H h) (KX:K.In h) (q:SqL K H a xs):∃ (its:List Value) (o:Obj) (n:Nat),Vals xs its/\h.get? a=some o/\o.cls = .type "list" /\ o.data = .seq its.toArray n:=by
 rcases q with q | ⟨o,its,n,e,hc,_,hd,_,hv⟩
 . obtain ⟨_,its,n,hv,e⟩:=(show ObjOk P w H h a (.lst xs) from q.ok hok)
   exact ⟨its,_,n,hv,e,rfl,rfl⟩
 . exact ⟨its.toList,o,n,hv,KX _ _ e,hc,by simp [hd]⟩
theorem sqT_at {a:Addr} {xs:List V} (hok:HOk P w H h) (KX:K.In h) (q:SqT K H a xs):∃ (its:List Value) (o:Obj) (n:Nat),Vals xs its/\h.get? a=some o/\o.cls = .type "tuple" /\ o.data = .seq its.toArray n:=by
 rcases q with q | ⟨o,its,n,e,hc,hd,_,hv⟩
 . obtain ⟨_,its,hv,o,e,hc,n,hd⟩:=(show ObjOk P w H h a (.tup xs) from q.ok hok)
   exact ⟨its,o,n,hv,e,hc,hd⟩
 . exact ⟨its.toList,o,n,hv,KX _ _ e,hc,by simp [hd]⟩
mutual
theorem Dw.reads (hok:HOk P w H h) (KX:K.In h):∀ (d:WData) (v:V) (u:Value),Dw K H v d->RelV v u->∃ as,ReadsW R cl h u d as
 | .none,_,_,x,r=>by
  cases x
  cases r
  exact ⟨_,ReadsW.none⟩
 | .bool b,_,_,x,r=>by
  cases x
  cases r
  exact ⟨_,ReadsW.bool b⟩
 | .int i,_,_,x,r=>by
  cases x
  obtain ⟨t,rfl⟩:=r
  exact ⟨_,ReadsW.int i t⟩
 | .str s,_,_,x,r=>by
  cases x
  obtain ⟨t,rfl⟩:=r
  exact ⟨_,ReadsW.str s t⟩
 | .bytes b,_,_,x,r=>by
  cases x
  obtain ⟨t,rfl⟩:=r
  exact ⟨_,ReadsW.bytes _ t⟩
 | .list ds,_,_,x,r=>by
  cases x with
  | lst hs ha=>
   cases r
   obtain ⟨its,o,n,rv,ho,hc,hd⟩:=sqL_at hok KX hs
   obtain ⟨as,hr⟩:=Dw.readsAll hok KX ds _ its ha rv
   exact ⟨_,ReadsW.list ho hc hd hr⟩
 | .tuple ds,_,_,x,r=>by
  cases x with
  | tup hs ha=>
   cases r
   obtain ⟨its,o,n,rv,ho,hc,hd⟩:=sqT_at hok KX hs
   obtain ⟨as,hr⟩:=Dw.readsAll hok KX ds _ its ha rv
   exact ⟨_,ReadsW.tuple ho hc hd hr⟩
 | .float _,_,_,x,_=>by cases x
 | .dict _,_,_,x,_=>by cases x
 | .bytearray _,_,_,x,_=>by cases x
 | .set _,_,_,x,_=>by cases x
 | .frozenset _,_,_,x,_=>by cases x
 | .obj _ _,_,_,x,_=>by cases x
theorem Dw.readsAll (hok:HOk P w H h) (KX:K.In h):∀ (ds:List WData) (vs:List V) (us:List Value),DwAll K H vs ds->Vals vs us->∃ as,ReadsAllW R cl h us ds as
 | [],_,_,x,r=>by
  cases x
  cases r
  exact ⟨_,ReadsAllW.nil⟩
 | d :: ds,_,_,x,r=>by
  cases x with
  | cons h1 h2=>
   cases r with
   | cons r1 r2=>
    obtain ⟨as,q1⟩:=Dw.reads hok KX d _ _ h1 r1
    obtain ⟨bs,q2⟩:=Dw.readsAll hok KX ds _ _ h2 r2
    exact ⟨_,ReadsAllW.cons q1 q2⟩
end
end
mutual
/-- data that a codec tells -/
def plW:WData->Bool
 | .none=>true
 | .bool _=>true
 | .int _=>true
 | .str _=>true
 | .bytes _=>true
 | .list xs=>plWs xs
 | .tuple xs=>plWs xs
 | _=>false
def plWs:List WData->Bool
 | []=>true
 | x :: r=>plW x && plWs r
end
theorem plWs_map {α:Type} {f:α->WData} (h:∀ a,plW (f a)=true):∀ l:List α,plWs (l.map f)=true
 | []=>rfl
 | x :: r=>by
  show (plW (f x) && plWs (r.map f))=true
  rw [h x,plWs_map h r] <;> rfl
theorem pl_enc:∀ (c:Codec) (a:c.denote),plW (c.enc a)=true
 | .unit,_=>rfl
 | .bool,_=>rfl
 | .int _ _,_=>rfl
 | .nat _ _,_=>rfl
 | .u8,_=>rfl
 | .bytes _ _,_=>rfl
 | .text _ _ _ _,_=>rfl
 | .list _ _ c,a=>plWs_map (fun x=>pl_enc c x) a
 | .pair c d,a=>by
  show (plW (c.enc a.1) && (plW (d.enc a.2) && true))=true
  rw [pl_enc c a.1,pl_enc d a.2] <;> rfl
 | .triple c d e,a=>by
  show (plW (c.enc a.1) && (plW (d.enc a.2.1) && (plW (e.enc a.2.2) && true)))=true
  rw [pl_enc c a.1,pl_enc d a.2.1,pl_enc e a.2.2] <;> rfl
 | .option c,none=>rfl
 | .option c,some x=>pl_enc c x
theorem pl_encAll:∀ (cs:List Codec) (a:Codec.denoteAll cs),plWs (Codec.encAll cs a)=true
 | [],_=>rfl
 | c :: cs,a=>by
  show (plW (c.enc a.1) && plWs (Codec.encAll cs a.2))=true
  rw [pl_enc c a.1,pl_encAll cs a.2] <;> rfl
theorem weight_mem:∀ {xs:List WData} {d:WData},d ∈ xs->d.weight<=WData.weightAll xs
 | [],d,h=>absurd h (by simp)
 | x :: r,d,h=>by
  show d.weight<=x.weight + 1 + WData.weightAll r
  rcases List.mem_cons.mp h with e | m
  . rw [e]
    omega
  . have z:=weight_mem m
    omega
def toV:Value->V
 | .none=>.non
 | .bool b=>.bl b
 | .int i _=>.int i
 | .str x _=>.str x
 | .bytes b _=>.byt b
 | .ref a=>.ref a
 | _=>.non
def OkU (A:List Addr):Value->Prop
 | .none=>True
 | .bool _=>True
 | .int _ _=>True
 | .str _ _=>True
 | .bytes _ _=>True
 | .ref a=>a ∈ A
 | _=>False
theorem OkU.mono {A B:List Addr} (h:∀ a ∈ A,a ∈ B):∀ {u:Value},OkU A u->OkU B u:=fun {u} x=>by
 cases u with
 | ref a=>exact h a x
 | none=>trivial
 | bool b=>trivial
 | int i t=>trivial
 | str s t=>trivial
 | bytes b t=>trivial
 | _=>exact False.elim x
theorem relV_toV {A:List Addr} {u:Value} (x:OkU A u):RelV (toV u) u:=by
 cases u with
 | ref a=>rfl
 | none=>rfl
 | bool b=>rfl
 | int i t=>exact ⟨t,rfl⟩
 | str s t=>exact ⟨t,rfl⟩
 | bytes b t=>exact ⟨t,rfl⟩
 | _=>exact False.elim x
theorem vals_toV {A:List Addr}:∀ {vs:List Value},(∀ u ∈ vs,OkU A u)->Vals (vs.map toV) vs
 | [],_=>.nil
 | u :: r,h=>.cons (relV_toV (h u (List.mem_cons_self ..))) (vals_toV fun x hx=>h x (List.mem_cons_of_mem _ hx))
def ArgOb (h:Heap) (A:List Addr) (a:Addr):Prop:=∃ vs:List Value,vs.length<=sizeLine/\(∀ u ∈ vs,OkU A u) /\
 (h.get? a=some { cls:=.type "list",data:=.seq vs.toArray } \/ h.get? a=some { cls:=.type "tuple",data:=.seq vs.toArray })
theorem ArgOb.mono {h:Heap} {A B:List Addr} {a:Addr} (k:∀ a ∈ A,a ∈ B) (x:ArgOb h A a):ArgOb h B a:=by
 obtain ⟨vs,h1,h2,h3⟩:=x
 exact ⟨vs,h1,fun u hu=>(h2 u hu).mono k,h3⟩
theorem wellAll_len {P:Params} {h:Heap}:∀ {vs:List Value} {ds:List WData},WellAll P h vs ds->vs.length=ds.length
 | _,_,.nil=>rfl
 | _,_,.cons _ b=>by
  show _ + 1=_ + 1
  rw [wellAll_len b]
theorem well_list {P:Params} {h:Heap} {v:Value} {ds:List WData} (x:Well P h v (.list ds)):∃ (a:Addr) (vs:List Value),v = .ref a/\h.get? a=some { cls:=.type "list",data:=.seq vs.toArray }/\WellAll P h vs ds:=by
 cases x with
 | list ho hall=>exact ⟨_,_,rfl,ho,hall⟩
theorem well_tuple {P:Params} {h:Heap} {v:Value} {ds:List WData} (x:Well P h v (.tuple ds)):∃ (a:Addr) (vs:List Value),v = .ref a/\h.get? a=some { cls:=.type "tuple",data:=.seq vs.toArray }/\WellAll P h vs ds:=by
 cases x with
 | tuple ho hall=>exact ⟨_,_,rfl,ho,hall⟩
theorem well_cons {P:Params} {h:Heap} {us:List Value} {d:WData} {ds:List WData} (x:WellAll P h us (d :: ds)):∃ (v:Value) (vs:List Value),us=v :: vs/\Well P h v d/\WellAll P h vs ds:=by
 cases x with
 | cons a b=>exact ⟨_,_,rfl,a,b⟩
theorem line_of {n:Nat} (h:n<=1048576):n<=sizeLine:=Nat.le_trans h (by decide)
section
variable {P:Params} {h:Heap}
mutual
theorem area_one:∀ (d:WData) (v:Value),Well P h v d->plW d=true->d.weight<=1048576->∃ A:List Addr,OkU A v/\∀ a ∈ A,ArgOb h A a
 | .none,_,x,_,_=>by
  cases x
  exact ⟨[],trivial,fun a m=>absurd m (by simp)⟩
 | .bool b,_,x,_,_=>by
  cases x
  exact ⟨[],trivial,fun a m=>absurd m (by simp)⟩
 | .int i,_,x,_,_=>by
  cases x
  exact ⟨[],trivial,fun a m=>absurd m (by simp)⟩
 | .str s,_,x,_,_=>by
  cases x
  exact ⟨[],trivial,fun a m=>absurd m (by simp)⟩
 | .bytes b,_,x,_,_=>by
  cases x
  exact ⟨[],trivial,fun a m=>absurd m (by simp)⟩
 | .list ds,_,x,p,z=>by
  obtain ⟨a,vs,rfl,ho,hall⟩:=well_list x
  have z2:WData.weightAll ds<=1048576:=z
  obtain ⟨A,h1,h2⟩:=area_all ds _ hall p fun d hd=>Nat.le_trans (weight_mem hd) z2
  have k:∀ b ∈ A,b ∈ a :: A:=fun b hb=>List.mem_cons_of_mem _ hb
  refine ⟨a :: A,List.mem_cons_self ..,fun b hb=>?_⟩
  rcases List.mem_cons.mp hb with e | m
  . rw [e]
    exact ⟨vs,line_of (by rw [wellAll_len hall]; exact Nat.le_trans (PySem.W.length_le_weightAllW ds) z2),fun u hu=>(h1 u hu).mono k,.inl ho⟩
  . exact (h2 b m).mono k
 | .tuple ds,_,x,p,z=>by
  obtain ⟨a,vs,rfl,ho,hall⟩:=well_tuple x
  have z2:WData.weightAll ds<=1048576:=z
  obtain ⟨A,h1,h2⟩:=area_all ds _ hall p fun d hd=>Nat.le_trans (weight_mem hd) z2
  have k:∀ b ∈ A,b ∈ a :: A:=fun b hb=>List.mem_cons_of_mem _ hb
  refine ⟨a :: A,List.mem_cons_self ..,fun b hb=>?_⟩
  rcases List.mem_cons.mp hb with e | m
  . rw [e]
    exact ⟨vs,line_of (by rw [wellAll_len hall]; exact Nat.le_trans (PySem.W.length_le_weightAllW ds) z2),fun u hu=>(h1 u hu).mono k,.inr ho⟩
  . exact (h2 b m).mono k
 | .float _,_,_,p,_=>Bool.noConfusion (show false=true from p)
 | .dict _,_,_,p,_=>Bool.noConfusion (show false=true from p)
 | .bytearray _,_,_,p,_=>Bool.noConfusion (show false=true from p)
 | .set _,_,_,p,_=>Bool.noConfusion (show false=true from p)
 | .frozenset _,_,_,p,_=>Bool.noConfusion (show false=true from p)
 | .obj _ _,_,_,p,_=>Bool.noConfusion (show false=true from p)
theorem area_all:∀ (ds:List WData) (vs:List Value),WellAll P h vs ds->plWs ds=true->(∀ d ∈ ds,d.weight<=1048576)->∃ A:List Addr,(∀ u ∈ vs,OkU A u)/\∀ a ∈ A,ArgOb h A a
 | [],_,x,_,_=>by
  cases x
  exact ⟨[],fun u m=>absurd m (by simp),fun a m=>absurd m (by simp)⟩
 | d :: ds,_,x,p,z=>by
  obtain ⟨v,vs,rfl,x1,x2⟩:=well_cons x
  have q:plW d=true/\plWs ds=true:=Bool.and_eq_true_iff.mp p
  obtain ⟨A,a1,a2⟩:=area_one d v x1 q.1 (z d (List.mem_cons_self ..))
  obtain ⟨B,b1,b2⟩:=area_all ds vs x2 q.2 fun e he=>z e (List.mem_cons_of_mem _ he)
  have kA:∀ b ∈ A,b ∈ A ++ B:=fun b hb=>List.mem_append.mpr (.inl hb)
  have kB:∀ b ∈ B,b ∈ A ++ B:=fun b hb=>List.mem_append.mpr (.inr hb)
  refine ⟨A ++ B,fun u hu=>?_,fun b hb=>?_⟩
  . rcases List.mem_cons.mp hu with e | m
    . rw [e]
      exact a1.mono kA
    . exact (b1 u m).mono kB
  . rcases List.mem_append.mp hb with m | m
    . exact (a2 b m).mono kA
    . exact (b2 b m).mono kB
end
end
def hoOf (o:Obj):Option HO:=match o.data with
 | .seq vs _=>if (o.cls == Value.type "list")=true then some (.frz o (.lst (vs.toList.map toV))) else some (.frz o (.tup (vs.toList.map toV)))
 | _=>none
def argH (K:PySem.W.Frag) (h:Heap) (A:List Addr):Hp:=fun b=>if b ∈ A then (if (K.lookup b).isNone=true then (h.get? b).bind hoOf else none) else none
def OnlyF (H:Hp):Prop:=∀ b,H b=none \/ ∃ o u,H b=some (.frz o u)
theorem hoOf_lst (vs:List Value):hoOf { cls:=.type "list",data:=.seq vs.toArray }=some (.frz { cls:=.type "list",data:=.seq vs.toArray } (.lst (vs.map toV))):=by
 show (if (Value.type "list" == Value.type "list")=true then some (HO.frz { cls:=.type "list",data:=.seq vs.toArray } (.lst (vs.toArray.toList.map toV))) else some (HO.frz { cls:=.type "list",data:=.seq vs.toArray } (.tup (vs.toArray.toList.map toV))))=_
 rw [if_pos (beq_self_eq_true _)]
theorem hoOf_tup (vs:List Value):hoOf { cls:=.type "tuple",data:=.seq vs.toArray }=some (.frz { cls:=.type "tuple",data:=.seq vs.toArray } (.tup (vs.map toV))):=by
 show (if (Value.type "tuple" == Value.type "list")=true then some (HO.frz { cls:=.type "tuple",data:=.seq vs.toArray } (.lst (vs.toArray.toList.map toV))) else some (HO.frz { cls:=.type "tuple",data:=.seq vs.toArray } (.tup (vs.toArray.toList.map toV))))=_
 rw [if_neg (by decide)]
section
variable {P:Program} {w:World} {K:PySem.W.Frag} {h:Heap} {A:List Addr}
theorem argH_at {b:Addr} {o:Obj} (hb:b ∈ A) (hk:K.lookup b=none) (e:h.get? b=some o):argH K h A b=hoOf o:=by
 unfold argH
 rw [if_pos hb,hk,if_pos (show (none:Option Obj).isNone=true from rfl),e] <;> rfl
theorem of_argH {b:Addr} {u:HO} (q:argH K h A b=some u):b ∈ A/\K.lookup b=none:=by
 unfold argH at q
 by_cases hb:b ∈ A
 . rw [if_pos hb] at q
   cases hk:K.lookup b with
   | none=>exact ⟨hb,rfl⟩
   | some o=>
    rw [hk,if_neg (by simp)] at q
    cases q
 . rw [if_neg hb] at q
   cases q
theorem argH_is (ar:∀ a ∈ A,ArgOb h A a) {b:Addr} {u:HO} (q:argH K h A b=some u):K.lookup b=none/\∃ vs:List Value,vs.length<=sizeLine/\(∀ u ∈ vs,OkU A u) /\
 ((h.get? b=some { cls:=.type "list",data:=.seq vs.toArray }/\u = .frz { cls:=.type "list",data:=.seq vs.toArray } (.lst (vs.map toV))) \/
  (h.get? b=some { cls:=.type "tuple",data:=.seq vs.toArray }/\u = .frz { cls:=.type "tuple",data:=.seq vs.toArray } (.tup (vs.map toV)))):=by
 obtain ⟨hb,hk⟩:=of_argH q
 obtain ⟨vs,h1,h2,h3⟩:=ar b hb
 refine ⟨hk,vs,h1,h2,?_⟩
 rcases h3 with e | e
 . rw [argH_at hb hk e,hoOf_lst] at q
   exact .inl ⟨e,(Option.some.inj q).symm⟩
 . rw [argH_at hb hk e,hoOf_tup] at q
   exact .inr ⟨e,(Option.some.inj q).symm⟩
theorem argH_only (ar:∀ a ∈ A,ArgOb h A a):OnlyF (argH K h A):=fun b=>by
 cases q:argH K h A b with
 | none=>exact .inl rfl
 | some u=>
  obtain ⟨_,vs,_,_,⟨_,e⟩ | ⟨_,e⟩⟩:=argH_is ar q
  . exact .inr ⟨_,_,by rw [e]⟩
  . exact .inr ⟨_,_,by rw [e]⟩
theorem argH_ok (ar:∀ a ∈ A,ArgOb h A a):HOk P w (argH K h A) h:=fun b u q=>by
 obtain ⟨_,vs,h1,h2,⟨e,rfl⟩ | ⟨e,rfl⟩⟩:=argH_is ar q
 . exact ⟨e,by rw [List.length_map]; exact h1,vs,_,vals_toV h2,e⟩
 . exact ⟨e,by rw [List.length_map]; exact h1,vs,vals_toV h2,_,e,rfl,_,rfl⟩
theorem seq_inj {c c':Value} {vs us:List Value} (e:(some { cls:=c,data:=.seq vs.toArray }:Option Obj)=some { cls:=c',data:=.seq us.toArray }):c=c'/\vs=us:=by
 have e1:=Option.some.inj e
 have e2:c=c':=congrArg Obj.cls e1
 have e3:Data.seq vs.toArray=Data.seq us.toArray:=congrArg Obj.data e1
 injection e3 with e4
 refine ⟨e2,?_⟩
 have e5:=congrArg Array.toList e4
 simpa using e5
theorem argL (KX:K.In h) (ar:∀ a ∈ A,ArgOb h A a) {a:Addr} {vs:List Value} (ha:a ∈ A) (e:h.get? a=some { cls:=.type "list",data:=.seq vs.toArray }):(∀ u ∈ vs,OkU A u)/\SqL K (argH K h A) a (vs.map toV):=by
 obtain ⟨us,h1,h2,h3⟩:=ar a ha
 have hu:us=vs:=by
  rcases h3 with q | q
  . rw [e] at q
    exact (seq_inj q).2.symm
  . rw [e] at q
    exact absurd (Value.type.inj (seq_inj q).1) (by decide)
 subst hu
 refine ⟨h2,?_⟩
 cases hk:K.lookup a with
 | none=>exact .inl (.inr ⟨_,by rw [argH_at ha hk e,hoOf_lst]⟩)
 | some o=>
  have e2:=KX a o hk
  rw [e] at e2
  obtain rfl:=Option.some.inj e2
  exact .inr ⟨_,us.toArray,_,hk,rfl,rfl,rfl,by rw [List.size_toArray]; exact h1,by simpa using vals_toV h2⟩
theorem argT (KX:K.In h) (ar:∀ a ∈ A,ArgOb h A a) {a:Addr} {vs:List Value} (ha:a ∈ A) (e:h.get? a=some { cls:=.type "tuple",data:=.seq vs.toArray }):(∀ u ∈ vs,OkU A u)/\SqT K (argH K h A) a (vs.map toV):=by
 obtain ⟨us,h1,h2,h3⟩:=ar a ha
 have hu:us=vs:=by
  rcases h3 with q | q
  . rw [e] at q
    exact absurd (Value.type.inj (seq_inj q).1) (by decide)
  . rw [e] at q
    exact (seq_inj q).2.symm
 subst hu
 refine ⟨h2,?_⟩
 cases hk:K.lookup a with
 | none=>exact .inl (.inr ⟨_,by rw [argH_at ha hk e,hoOf_tup]⟩)
 | some o=>
  have e2:=KX a o hk
  rw [e] at e2
  obtain rfl:=Option.some.inj e2
  exact .inr ⟨_,us.toArray,_,hk,rfl,rfl,by rw [List.size_toArray]; exact h1,by simpa using vals_toV h2⟩
mutual
theorem dw_one {Pm:Params} (KX:K.In h) (ar:∀ a ∈ A,ArgOb h A a):∀ (d:WData) (v:Value),Well Pm h v d->plW d=true->OkU A v->Dw K (argH K h A) (toV v) d
 | .none,_,x,_,_=>by
  cases x
  exact .non
 | .bool b,_,x,_,_=>by
  cases x
  exact .bl b
 | .int i,_,x,_,_=>by
  cases x
  exact .int i
 | .str s,_,x,_,_=>by
  cases x
  exact .str s
 | .bytes b,_,x,_,_=>by
  cases x
  have z:=Dw.byt (K:=K) (H:=argH K h A) b.toArray
  exact z
 | .list ds,_,x,p,hu=>by
  obtain ⟨a,vs,rfl,ho,hall⟩:=well_list x
  obtain ⟨h2,hs⟩:=argL KX ar hu ho
  exact .lst hs (dw_all KX ar ds _ hall p h2)
 | .tuple ds,_,x,p,hu=>by
  obtain ⟨a,vs,rfl,ho,hall⟩:=well_tuple x
  obtain ⟨h2,hs⟩:=argT KX ar hu ho
  exact .tup hs (dw_all KX ar ds _ hall p h2)
 | .float _,_,_,p,_=>Bool.noConfusion (show false=true from p)
 | .dict _,_,_,p,_=>Bool.noConfusion (show false=true from p)
 | .bytearray _,_,_,p,_=>Bool.noConfusion (show false=true from p)
 | .set _,_,_,p,_=>Bool.noConfusion (show false=true from p)
 | .frozenset _,_,_,p,_=>Bool.noConfusion (show false=true from p)
 | .obj _ _,_,_,p,_=>Bool.noConfusion (show false=true from p)
theorem dw_all {Pm:Params} (KX:K.In h) (ar:∀ a ∈ A,ArgOb h A a):∀ (ds:List WData) (vs:List Value),WellAll Pm h vs ds->plWs ds=true->(∀ u ∈ vs,OkU A u)->DwAll K (argH K h A) (vs.map toV) ds
 | [],_,x,_,_=>by
  cases x
  exact .nil
 | d :: ds,_,x,p,hu=>by
  obtain ⟨v,vs,rfl,x1,x2⟩:=well_cons x
  have q:plW d=true/\plWs ds=true:=Bool.and_eq_true_iff.mp p
  exact .cons (dw_one KX ar d v x1 q.1 (hu _ (List.mem_cons_self ..))) (dw_all KX ar ds vs x2 q.2 fun u m=>hu u (List.mem_cons_of_mem _ m))
end
end
theorem spec_call {P:Program} {w:World} {K:PySem.W.Frag} {mg mb:Str->Option Value} {CX:CXT} {k:Nat} {fa:Addr} {fd:FuncData} {ps:List Str} {sp:Sp} {s₁:Shared} {vals:List Value} {ds:List WData} {R:PySem.W.WRecords} {cl:Str->Option Addr} {d0:WData}
 (KX:K.In s₁.heap) (hns:s₁.heap.Ns mainGlobals mg) (hb:s₁.heap.Ns builtinsNs mb) (hbb:∀ x:Str,x ≠ "__name__" -> mb x=bootBuiltins x) (hlim:s₁.heap.NoLimit) (hg:s₁.gens = #[])
 (hwl:WellAll w.params s₁.heap vals ds) (hpl:plWs ds=true) (hwt:∀ d ∈ ds,d.weight<=1048576) (hr:Room k callerA)
 (F:∀ base:Heap,K.In base->base.Ns mainGlobals mg->FnOk P w K mg base CX k fa fd ps sp) (hbind:∀ (s:Shared) (us:List Value),us.length=ps.length->BindsTo s fd ⟨us,[]⟩ (ps.zip us)) (hlen:ds.length=ps.length)
 (hsp:∀ (H:Hp) (xs:List V),OnlyF H->DwAll K H xs ds->sp xs H (fun v H'=>Dw K H' v d0) fun _ _ _=>False)
 (hCX:∀ H e s',CX [] H s₁ (fun _ _ _=>False) e s'->False) :
 codeAny (model P w) callerA (.call (.ref fa) ⟨vals,[]⟩) (fun r s'=>∃ u as,r = .ok (.ret u)/\ReadsW R cl s'.heap u d0 as/\OldK s₁.heap s'.heap/\s'.os=s₁.os/\AllBare s'.gens) s₁:=by
 obtain ⟨A,ho,ar⟩:=area_all ds vals hwl hpl hwt
 have hO:OnlyF (argH K s₁.heap A):=argH_only ar
 have hok:HOk P w (argH K s₁.heap A) s₁.heap:=argH_ok ar
 have hS:=dw_all KX ar ds vals hwl hpl ho
 have hV:=vals_toV ho
 have hK:∀ b u,argH K s₁.heap A b=some u->K.lookup b=none:=fun b u q=>(argH_is ar q).1
 have noA:∀ {b:Addr} {o:Obj} {es:Array DictEntry} {ep:Nat},s₁.heap.get? b=some o->o.data = .dict es ep->argH K s₁.heap A b=none:=fun {b o es ep} e d=>by
  cases q:argH K s₁.heap A b with
  | none=>rfl
  | some u=>
   obtain ⟨_,vs,_,_,⟨e2,_⟩ | ⟨e2,_⟩⟩:=argH_is ar q
   . rw [e2] at e
     cases e
     have d':Data.seq vs.toArray _=Data.dict es ep:=d
     cases d'
   . rw [e2] at e
     cases e
     have d':Data.seq vs.toArray _=Data.dict es ep:=d
     cases d'
 generalize argH K s₁.heap A=H at hO hok hS hK noA
 have base_of:∀ {b:Addr} {o:Obj},s₁.heap.get? b=some o->H b=none->(hidT s₁.heap H).get? b=some o:=fun e n=>hidT_get e n
 have nsK:∀ {b:Addr} {m:Str->Option Value},s₁.heap.Ns b m->(hidT s₁.heap H).Ns b m:=fun {b m} ⟨o,es,ep,e,d,r⟩=>⟨o,es,ep,base_of e (noA e d),d,r⟩
 have nK:∀ b o,K.lookup b=some o->H b=none:=fun b o e=>by
  cases q:H b with
  | none=>rfl
  | some u=>
   rw [hK b u q] at e
   cases e
 have hKb:K.In (hidT s₁.heap H):=fun b o e=>base_of (KX b o e) (nK b o e)
 have hM:Mod K mg (hidT s₁.heap H):=⟨hKb,nsK hns,⟨mb,nsK hb,hbb⟩,let ⟨mc,h1,h2⟩:=hlim; ⟨mc,nsK h1,h2⟩⟩
 have e0:Env0 P w K mg (hidT s₁.heap H) callerA [] s₁ H:=⟨rfl,hM,fun b o e=>of_hidT e,Nat.le_of_eq (hidT_size _ _),trivial,fun b hb=>absurd (show b ∈ ([]:List Addr) from hb) (by simp),hok,.of_eq hg⟩
 have hl:vals.length=ps.length:=by rw [wellAll_len hwl]; exact hlen
 refine codeAny_mono ((F _ hKb (nsK hns)).run callerA [] s₁ H ⟨vals,[]⟩ vals (vals.map toV) _ _ hr e0 (hbind s₁ vals hl) hV (hsp H _ hO hS)) fun r s' x=>?_
 cases r with
 | error e=>exact (hCX H e s' x).elim
 | ok fl=>
  cases fl with
  | next=>exact False.elim x
  | brk=>exact False.elim x
  | cont=>exact False.elim x
  | ret u=>
   obtain ⟨v,H',os,bare,un,hok',r',q⟩:=x
   have kept:∀ b o,s₁.heap.get? b=some o->s'.heap.get? b=some o:=fun b o e=>by
    cases q2:H b with
    | none=>exact un.keep b o e q2 (by intro z; exact absurd (show b ∈ ([]:List Addr) from z) (by simp)) (by simp)
    | some u2=>
     rcases hO b with z | ⟨ob,u3,z⟩
     . rw [q2] at z
       cases z
     . have z2:=un.frzs b ob _ z
       obtain ⟨e1,_⟩:=hok b _ z
       obtain ⟨e2,_⟩:=hok' b _ z2
       rw [e] at e1
       cases e1
       exact e2
   have KX':K.In s'.heap:=fun b o e=>kept b o (KX b o e)
   obtain ⟨as,hrd⟩:=Dw.reads (R:=R) (cl:=cl) hok' KX' d0 v u q r'
   exact ⟨u,as,rfl,hrd,OldK.of_keep kept,os,bare⟩
theorem layable_weight {ds:List WData} (h:WData.layableAll ds=true):∀ d ∈ ds,d.weight<=1048576:=fun d hd=>
 (PySem.W.layableW_iff.mp (List.all_eq_true.mp h d hd)).2.2
theorem encAll_len:∀ (cs:List Codec) (a:Codec.denoteAll cs),(Codec.encAll cs a).length=cs.length
 | [],_=>rfl
 | c :: cs,a=>by
  show (Codec.encAll cs a.2).length + 1=cs.length + 1
  rw [encAll_len cs a.2]
theorem walk_spec {r:OpenSpec} {k:Nat} {q:Program} {loose:List Str} {XP:(Str->Option Value)->Heap->Prop} {YP:World->Heap->Prop} {d:DefRec} {K:Params->PySem.W.Frag} {CX:World->CXT} {ps:List Str} {sp:World->Sp}
 (hwell:r.wellSaid=true) (hdf:d.params.defaults=[]) (hlen:r.args.length=ps.length) (hr:Room k callerA)
 (hY:∀ (w:World) (h:Heap),YP w h->(K w.params).In h)
 (F:∀ (w:World) (mg:Str->Option Value) (fa:Addr) (h:Heap),YP w h->(K w.params).In h->h.Ns mainGlobals mg->mg d.name=some (.ref fa) ->
  ∃ fd:FuncData,(∀ (s:Shared) (us:List Value),us.length=ps.length->BindsTo s fd ⟨us,[]⟩ (ps.zip us)) /\
   ∀ base:Heap,(K w.params).In base->base.Ns mainGlobals mg->FnOk r.prog w (K w.params) mg base (CX w) k fa fd ps (sp w))
 (hsp:∀ (w:World) (H:Hp) (xs:List V) (a:Codec.denoteAll r.args),OnlyF H->Codec.withinAll r.args a=true->Codec.app r.args r.asked a=true->DwAll (K w.params) H xs (Codec.encAll r.args a) ->
  sp w xs H (fun v H'=>Dw (K w.params) H' v (r.ret.enc (Codec.app r.args r.f a))) fun _ _ _=>False)
 (hCX:∀ (w:World) (H:Hp) (s:Shared) (e:Value) (s':Shared),CX w [] H s (fun _ _ _=>False) e s'->False) :
 PySem.W.WalkOS q loose XP YP r d [] (fun f vs=>PySem.call f vs):=by
 intro w s_0 s₁ mg mb G Y fa o pm cd doc dV kV ho hd hcd hD hmg hg args vals as hpre hlay hrd hwl hlo
 obtain ⟨a,e1,e2⟩:=PySem.W.os_pre_some hpre
 obtain ⟨e3,hwi⟩:=Codec.encAll_of_decAll r.args args a e1
 subst e3
 have KX:=hY w _ Y
 obtain ⟨fd,hb,hF⟩:=F w mg fa _ Y KX G.T.g hmg
 refine PySem.W.enter_call (codeAny_mono (spec_call (R:=[]) (cl:=classAt s_0.heap) (d0:=r.ret.enc (Codec.app r.args r.f a)) KX G.T.g G.T.b G.T.builtins G.T.nolimit hg hwl (pl_encAll _ _) (layable_weight hlay) hr hF hb (by rw [encAll_len]; exact hlen)
  (fun H xs hO hS=>hsp w H xs a hO hwi e2 hS) fun H e s'=>hCX w H s₁ e s') fun r' s' hq=>?_)
 obtain ⟨u,as',rfl,h1,h2,h3,h4⟩:=hq
 exact ⟨.inl ⟨u,_,as',rfl,fun _=>rfl,h1,(OpenSpec.post_iff hwell hwi _ _).mpr rfl,fun z=>Bool.noConfusion (show false=true from z)⟩,h2,h3,h4⟩
theorem walk_specK {r:OpenSpec} {k:Nat} {q:Program} {loose:List Str} {XP:(Str->Option Value)->Heap->Prop} {YP:World->Heap->Prop} {d:DefRec} {K:Params->PySem.W.Frag} {CX:CXT} {ps:List Str} {sp:PySem.W.Frag->Sp}
 (hwell:r.wellSaid=true) (hdf:d.params.defaults=[]) (hlen:r.args.length=ps.length) (hr:Room k callerA)
 (hY:∀ (w:World) (h:Heap),YP w h->(K w.params).In h)
 (F:∀ (w:World) (mg:Str->Option Value) (fa:Addr) (h:Heap),YP w h->(K w.params).In h->h.Ns mainGlobals mg->mg d.name=some (.ref fa) ->
  ∃ fd:FuncData,(∀ (s:Shared) (us:List Value),us.length=ps.length->BindsTo s fd ⟨us,[]⟩ (ps.zip us)) /\
   ∀ base:Heap,(K w.params).In base->base.Ns mainGlobals mg->FnOk r.prog w (K w.params) mg base CX k fa fd ps (sp (K w.params)))
 (hsp:∀ (K:PySem.W.Frag) (H:Hp) (xs:List V) (a:Codec.denoteAll r.args),OnlyF H->Codec.withinAll r.args a=true->Codec.app r.args r.asked a=true->DwAll K H xs (Codec.encAll r.args a) ->
  sp K xs H (fun v H'=>Dw K H' v (r.ret.enc (Codec.app r.args r.f a))) fun _ _ _=>False)
 (hCX:∀ (H:Hp) (s:Shared) (e:Value) (s':Shared),CX [] H s (fun _ _ _=>False) e s'->False) :
 PySem.W.WalkOS q loose XP YP r d [] (fun f vs=>PySem.call f vs):=
 walk_spec (K:=K) (CX:=fun _=>CX) (sp:=fun w=>sp (K w.params)) hwell hdf hlen hr hY F (fun w H xs a h1 h2 h3 h4=>hsp (K w.params) H xs a h1 h2 h3 h4) fun _ H s e s'=>hCX H s e s'
end L2
end
end
section
namespace Exn
open PySem
structure Fly (h:Heap) (e T:Addr) (cls:Value) (dx:Option Addr) (m:Value):Prop where
 ex:∃ vs sl,h.get? e=some ⟨cls,dx,.fields vs,sl⟩/\vs[1]? = some (.ref T)
 tb:∃ oT ts,h.get? T=some oT/\oT.data = .fields ts/\ts[3]? = some m
 ne:T ≠ e
structure Kp (fs:List Addr) (e T:Addr) (h h':Heap):Prop where
 size:h.objs.size<=h'.objs.size
 keep:∀ b o,b ∉ fs->b ≠ e->b ≠ T->h.get? b=some o->h'.get? b=some o
 slot:∀ b o,b ∈ fs->b ≠ e->b ≠ T->h.get? b=some o->∃ sl,h'.get? b=some { o with slots:=sl }
theorem size_update (h:Heap) (a:Addr) (f:Obj->Obj):(h.update a f).objs.size=h.objs.size:=by
 cases h; simp [Heap.update]
theorem size_push (h:Heap) (o:Obj):(h.push o).objs.size=h.objs.size + 1:=by
 cases h; simp [Heap.push]
section
variable {M:Model} {A:Around} {E:Value->Shared->Prop} {s:Shared}
def frm (l:List Env):List Addr:=l.filterMap (·.frame)
theorem entry_new {base:Heap} {env:Env} {outer:List Env} {L e:Addr} {cls:Value} {dx:Option Addr} {vs:Array Value} {sl:Array (Option Value)} {head:Value} {hn:Bool} {Q:Unit->Shared->Prop}
 (hfr:A.frames=some (env :: outer)) (hl:s.heap.FunFrames base (env :: outer)) (hf:env.frame=some L)
 (he:s.heap.get? e=some ⟨cls,dx,.fields vs,sl⟩) (hsz:1 < vs.size)
 (h:∀ h' T,s.heap.objs.size<=T->Fly h' e T cls dx (rawInt L)->(∀ T0,Kp (frm (env :: outer)) e T0 s.heap h')->Q () { s with heap:=h' }) :
 wpAny M A (do let a <- frameOf env; let pl <- entryPlaceOf L hn; let b <- EntryCells.newEntry head a .none (rawInt L) .none pl; setField (.ref e) 1 b) Q E s:=by
 have ne:e ∉ frm (env :: outer):=fun hm=>by
  obtain ⟨_,o,ho,hnf⟩:=hl.mem hm
  rw [he] at ho
  cases ho
  exact hnf vs rfl
 refine wpAny_bind (wpAny_frameOf_fun hfr hl hf fun h1 z=>?_)
 obtain ⟨z1,z2,z3⟩:=z
 refine wpAny_bind (wpAny_entryPlaceOf fun pl hpl=>?_)
 unfold EntryCells.newEntry newFields
 refine wpAny_bind (wpAny_newObj_type ?_ (hpl.sizeOk5 _ _ _ _ _))
 have a1:h1.get? e=some ⟨cls,dx,.fields vs,sl⟩:=(z2 e ne).trans he
 have nT:h1.objs.size ≠ e:=Nat.ne_of_gt (Heap.lt_size a1)
 refine wpAny_setField (Heap.get?_push_of_some _ a1) rfl hsz (h _ h1.objs.size (by rw [z1]; exact Nat.le_refl _) ⟨⟨_,_,Heap.get?_update_self _ (Heap.get?_push_of_some _ a1) rfl,?_⟩,⟨_,_,(Heap.get?_update_other _ _ (Ne.symm nT)).trans (Heap.get?_push_size h1 rfl),rfl,?_⟩,nT⟩ fun T0=>⟨?_,fun b o hb hbe _ hq=>?_,fun b o hb hbe _ hq=>?_⟩)
 . simp [hsz]
 . simp
 . rw [size_update,size_push,<- z1]; exact Nat.le_succ _
 . rw [Heap.get?_update_other _ _ (Ne.symm hbe)]
   exact Heap.get?_push_of_some _ ((z2 b hb).trans hq)
 . obtain ⟨sl',q⟩:=z3 b o hq
   refine ⟨sl',?_⟩
   rw [Heap.get?_update_other _ _ (Ne.symm hbe)]
   exact Heap.get?_push_of_some _ q
theorem flight_none {e T:Addr} {cls m:Value} {dx:Option Addr} {Q:Unit->Shared->Prop} (F:Fly s.heap e T cls dx m)
 (h:∀ h',Fly h' e T cls dx .none->(∀ b,b ≠ T->h'.get? b=s.heap.get? b)->h'.objs.size=s.heap.objs.size->Q () { s with heap:=h' }):wpAny M A (setFlight (.ref e) none) Q E s:=by
 obtain ⟨⟨vs,sl,he,h1⟩,⟨oT,ts,hT,hd,h3⟩,ne⟩:=F
 unfold setFlight
 refine wpAny_bind (wpAny_field he rfl h1 ?_)
 rw [if_pos (show (Value.ref T != Value.none)=true from by simp)]
 have z:3 < ts.size:=(Array.getElem?_eq_some_iff.mp h3).1
 have other:∀ b,b ≠ T->(s.heap.update T (Obj.mapFields (·.setIfInBounds 3 Value.none))).get? b=s.heap.get? b:=fun b hb=>Heap.get?_update_other _ _ (Ne.symm hb)
 refine wpAny_setField hT hd z (h _ ⟨⟨vs,sl,(other e (Ne.symm ne)).trans he,h1⟩,⟨_,_,Heap.get?_update_self _ hT (Obj.isFreed_of_fields (Obj.data_mapFields hd _)),Obj.data_mapFields hd _,by simp [z]⟩,ne⟩ other (size_update _ _ _))
theorem note_first {base:Heap} {env:Env} {outer:List Env} {L e:Addr} {cls:Value} {dx:Option Addr} {vs:Array Value} {sl:Array (Option Value)} {Q:Unit->Shared->Prop}
 (hfr:A.frames=some (env :: outer)) (hl:s.heap.FunFrames base (env :: outer)) (hf:env.frame=some L)
 (he:s.heap.get? e=some ⟨cls,dx,.fields vs,sl⟩) (h1:vs[1]? = some .none)
 (h:∀ h' T,s.heap.objs.size<=T->Fly h' e T cls dx (rawInt L)->(∀ T0,Kp (frm (env :: outer)) e T0 s.heap h')->Q () { s with heap:=h' }):wpAny M A (noteFrame (.ref e) env) Q E s:=by
 unfold noteFrame
 simp only [hf]
 refine wpAny_bind (wpAny_field he rfl h1 ?_)
 rw [if_neg (by decide)]
 exact entry_new hfr hl hf he (Array.getElem?_eq_some_iff.mp h1).1 h
theorem note_next {base:Heap} {env:Env} {outer:List Env} {L e T:Addr} {cls:Value} {dx:Option Addr} {Q:Unit->Shared->Prop}
 (hfr:A.frames=some (env :: outer)) (hl:s.heap.FunFrames base (env :: outer)) (hf:env.frame=some L) (F:Fly s.heap e T cls dx .none)
 (h:∀ h' T',s.heap.objs.size<=T'->Fly h' e T' cls dx (rawInt L)->Kp (frm (env :: outer)) e T s.heap h'->Q () { s with heap:=h' }):wpAny M A (noteFrame (.ref e) env) Q E s:=by
 obtain ⟨⟨vs,sl,he,h1⟩,⟨oT,ts,hT,hd,h3⟩,ne⟩:=F
 unfold noteFrame
 simp only [hf]
 refine wpAny_bind (wpAny_field he rfl h1 ?_)
 rw [if_pos (show (Value.ref T != Value.none)=true from by simp)]
 refine wpAny_bind (wpAny_field hT hd h3 ?_)
 rw [if_neg (show ¬ ((Value.none == rawInt L)=true) from by simp [rawInt])]
 refine wpAny_bind (wpAny_setField hT hd (Array.getElem?_eq_some_iff.mp h3).1 ?_)
 have other:∀ b,b ≠ T->(s.heap.update T (Obj.mapFields (·.setIfInBounds 3 Value.none))).get? b=s.heap.get? b:=fun b hb=>Heap.get?_update_other _ _ (Ne.symm hb)
 refine entry_new (s:={ s with heap:=s.heap.update T (Obj.mapFields (·.setIfInBounds 3 Value.none)) }) (base:=base) hfr ?_ hf ((other e (Ne.symm ne)).trans he) (Array.getElem?_eq_some_iff.mp h1).1 fun h' T' hT' F' K'=>?_
 . refine hl.of_keeps fun b o hb hnf=>⟨o,(other b fun q=>?_).trans hb,rfl⟩
   rw [q,hT] at hb
   cases hb
   exact hnf ts hd
 . refine h h' T' (by rw [<- size_update s.heap T]; exact hT') F' ?_
   obtain ⟨k1,k2,k3⟩:=K' T
   refine ⟨by rw [<- size_update s.heap T]; exact k1,fun b o hb hbe hbT hq=>k2 b o hb hbe hbT ((other b hbT).trans hq),fun b o hb hbe hbT hq=>k3 b o hb hbe hbT ((other b hbT).trans hq)⟩
theorem leave_next {base:Heap} {env:Env} {outer:List Env} {L e T:Addr} {cls:Value} {dx:Option Addr} {Q:Unit->Shared->Prop}
 (hfr:A.frames=some (env :: outer)) (hl:s.heap.FunFrames base (env :: outer)) (hf:env.frame=some L) (F:Fly s.heap e T cls dx .none)
 (h:∀ h' T',s.heap.objs.size<=T'->Fly h' e T' cls dx .none->Kp (frm (env :: outer)) e T s.heap h'->Q () { s with heap:=h' }):wpAny M A (leaving env (.ref e)) Q E s:=by
 unfold leaving
 refine wpAny_bind (note_next hfr hl hf F fun h1 T1 hT1 F1 K1=>?_)
 refine flight_none (s:={ s with heap:=h1 }) F1 fun h2 F2 o2 z2=>h h2 T1 hT1 F2 ?_
 have nT:∀ b o,s.heap.get? b=some o->b ≠ T1:=fun b o q=>Nat.ne_of_lt (Nat.lt_of_lt_of_le (Heap.lt_size q) hT1)
 exact ⟨by rw [z2]; exact K1.size,fun b o hb hbe hbT q=>(o2 b (nT b o q)).trans (K1.keep b o hb hbe hbT q),fun b o hb hbe hbT q=>by
  obtain ⟨sl,r⟩:=K1.slot b o hb hbe hbT q
  exact ⟨sl,(o2 b (nT b o q)).trans r⟩⟩
theorem leave_first {base:Heap} {env:Env} {outer:List Env} {L e:Addr} {cls:Value} {dx:Option Addr} {vs:Array Value} {sl:Array (Option Value)} {Q:Unit->Shared->Prop}
 (hfr:A.frames=some (env :: outer)) (hl:s.heap.FunFrames base (env :: outer)) (hf:env.frame=some L)
 (he:s.heap.get? e=some ⟨cls,dx,.fields vs,sl⟩) (h1:vs[1]? = some .none)
 (h:∀ h' T',s.heap.objs.size<=T'->Fly h' e T' cls dx .none->(∀ T0,Kp (frm (env :: outer)) e T0 s.heap h')->Q () { s with heap:=h' }):wpAny M A (leaving env (.ref e)) Q E s:=by
 unfold leaving
 refine wpAny_bind (note_first hfr hl hf he h1 fun h1 T1 hT1 F1 K1=>?_)
 refine flight_none (s:={ s with heap:=h1 }) F1 fun h2 F2 o2 z2=>h h2 T1 hT1 F2 fun T0=>?_
 have nT:∀ b o,s.heap.get? b=some o->b ≠ T1:=fun b o q=>Nat.ne_of_lt (Nat.lt_of_lt_of_le (Heap.lt_size q) hT1)
 exact ⟨by rw [z2]; exact (K1 T0).size,fun b o hb hbe hbT q=>(o2 b (nT b o q)).trans ((K1 T0).keep b o hb hbe hbT q),fun b o hb hbe hbT q=>by
  obtain ⟨sl,r⟩:=(K1 T0).slot b o hb hbe hbT q
  exact ⟨sl,(o2 b (nT b o q)).trans r⟩⟩
end
end Exn
end
section
namespace L2
open PySem PySem.Spec PyProof.Rows Exn
def CXE (P:Program) (w:World):CXT:=fun outer H s E e s'=>∃ ea T cls dx H',e = .ref ea/\s'.os=s.os/\AllBare s'.gens/\Un (frs outer) [] H H' s.heap s'.heap/\HOk P w H' s'.heap /\
 s.heap.get? ea=none/\s.heap.get? T=none/\H' ea=none/\H' T=none/\Fly s'.heap ea T cls dx .none/\E cls dx H'
theorem frames_kept {h h' base:Heap}:∀ {l:List Env},h.FunFrames base l->(∀ b ∈ frs l,∀ o,h.get? b=some o->∃ sl,h'.get? b=some { o with slots:=sl })->h'.FunFrames base l
 | [],_,_=>trivial
 | env :: rest,hl,k=>by
  obtain ⟨hk,⟨L,o,hf,hn,ho,hd⟩,hr⟩:=hl
  have e:frs (env :: rest)=L :: frs rest:=by unfold frs; rw [List.filterMap_cons,hf]
  obtain ⟨sl,ho'⟩:=k L (by rw [e]; exact List.mem_cons_self) o ho
  exact ⟨hk,⟨L,_,hf,hn,ho',hd⟩,frames_kept hr fun b hb=>k b (by rw [e]; exact List.mem_cons_of_mem _ hb)⟩
theorem HOk.kept_but {P:Program} {w:World} {H:Hp} {h h':Heap} {fs:List Addr} {e T:Addr} (hok:HOk P w H h) (K:Kp fs e T h h') (hf:∀ b ∈ fs,H b=none) (he:H e=none) (hT:H T=none):HOk P w H h':=fun a o q=>
 (hok a o q).stay (fun b v hb r=>by
  have nn:H b ≠ none:=by
   rcases hb with rfl | hb
   . rw [q]; exact fun z=>nomatch z
   . rw [hb]; exact fun z=>nomatch z
  exact K.keep b v (fun z=>nn (hf b z)) (fun z=>nn (z ▸ he)) (fun z=>nn (z ▸ hT)) r) (fun _ z=>z) fun _ _ z=>z
section
variable {X:Cx} {pins:List (Addr × Obj)} {σ:St} {H:Hp} {s:Shared}
theorem Inv.frames_here (I:Inv X pins σ H s) (hst:X.stack=X.env :: X.outer):s.heap.FunFrames X.base (X.env :: X.outer):=hst ▸ I.stack
theorem Inv.out {H':Hp} {s':Shared} {ea T:Addr} (I:Inv X pins σ H s) (hst:X.stack=X.env :: X.outer) (hex:X.ex=[]) (u:Un (frs (X.env :: X.outer)) [] H H' s.heap s'.heap)
 (ne:s.heap.get? ea=none) (nT:s.heap.get? T=none) {h2:Heap} (K:Kp (frs (X.env :: X.outer)) ea T s'.heap h2):Un X.fs [] X.H_0 H' X.s_0.heap h2:=by
 have hx:∀ b:Addr,b ∉ X.ex:=fun b=>by rw [hex]; simp
 have n0:∀ b:Addr,b ∉ ([]:List Addr):=fun b=>by simp
 have nL:∀ b o,X.s_0.heap.get? b=some o->b ≠ X.env.locals:=fun b o q=>Nat.ne_of_lt (Nat.lt_of_lt_of_le (Heap.lt_size q) I.ok.above)
 have th:∀ b o,X.s_0.heap.get? b=some o->b ≠ ea/\b ≠ T:=fun b o q=>by
  obtain ⟨o',q'⟩:=I.base.there b o q (hx b)
  exact ⟨(fun z=>by rw [z,ne] at q'; cases q'),(fun z=>by rw [z,nT] at q'; cases q')⟩
 have st:∀ b o,X.s_0.heap.get? b=some o->b ∉ X.fs->b ∉ frs (X.env :: X.outer):=fun b o q hb z=>by
  have z':=I.stkSub b (hst ▸ z)
  rcases List.mem_cons.mp z' with z' | z'
  . exact nL b o q z'
  . exact hb z'
 refine ⟨fun b o q n hb _=>?_,fun b o q n hb _=>?_,fun b o q n _=>?_,fun b o q _=>?_,fun b xs q=>u.tups b xs (I.base.tups b xs q),fun b o v q=>u.frzs b o v (I.base.frzs b o v q),fun b ps q=>?_⟩
 . exact K.keep b o (st b o q hb) (th b o q).1 (th b o q).2 (u.keep b o (I.base.keep b o q n hb (hx b)) (I.base.free b o q n (hx b)) (st b o q hb) (n0 b))
 . obtain ⟨sl,q1⟩:=I.base.slot b o q n hb (hx b)
   obtain ⟨sl',q2⟩:=u.any q1 (I.base.free b o q n (hx b)) (n0 b)
   by_cases hm:b ∈ frs (X.env :: X.outer)
   . obtain ⟨sl2,q3⟩:=K.slot b _ hm (th b o q).1 (th b o q).2 q2
     exact ⟨sl2,q3⟩
   . exact ⟨sl',K.keep b _ hm (th b o q).1 (th b o q).2 q2⟩
 . obtain ⟨o',q'⟩:=I.base.there b o q (hx b)
   exact u.free b o' q' (I.base.free b o q n (hx b)) (n0 b)
 . obtain ⟨o',q'⟩:=I.base.there b o q (hx b)
   obtain ⟨o2,q2⟩:=u.there b o' q' (n0 b)
   by_cases hm:b ∈ frs (X.env :: X.outer)
   . obtain ⟨sl2,q3⟩:=K.slot b _ hm (th b o q).1 (th b o q).2 q2
     exact ⟨_,q3⟩
   . exact ⟨_,K.keep b _ hm (th b o q).1 (th b o q).2 q2⟩
 . obtain ⟨m1,e1⟩:=I.base.tbls b ps q
   obtain ⟨m2,e2⟩:=u.tbls b _ e1
   exact ⟨m1 ++ m2,by rw [e2,Array.append_assoc]⟩
theorem Inv.new0 (I:Inv X pins σ H s) (hex:X.ex=[]) {b:Addr} (n:s.heap.get? b=none):X.s_0.heap.get? b=none:=by
 cases q:X.s_0.heap.get? b with
 | none=>rfl
 | some o=>
  obtain ⟨o',q'⟩:=I.base.there b o q (by rw [hex]; simp)
  rw [n] at q'
  cases q'
theorem leaves_ok {E:XK} {e:Value} {s':Shared} (I:Inv X pins σ H s) (hst:X.stack=X.env :: X.outer) (hfr:X.env.frame=some X.env.locals) (hex:X.ex=[]) (hx:CXE X.prog X.w X.stack H s E e s')
 {R:Value->Shared->Prop}:wpAny (model X.prog X.w) X.A (leaving X.env e) (fun _ s2=>CXE X.prog X.w X.outer X.H_0 X.s_0 E e s2) R s':=by
 obtain ⟨ea,T,cls,dx,H',rfl,hos,hg,u,hok,ne,nT,fe,fT,F,hE⟩:=hx
 rw [hst] at u
 have FF:=I.frames_here hst
 have stk:∀ b ∈ frs (X.env :: X.outer),H b=none:=fun b hb=>I.stkFree b (hst ▸ hb)
 have FF':s'.heap.FunFrames X.base (X.env :: X.outer):=frames_kept FF fun b hb o ho=>u.any ho (stk b hb) (by simp)
 have fr':∀ b ∈ frs (X.env :: X.outer),H' b=none:=fun b hb=>by
  obtain ⟨_,o,ho,_⟩:=FF.mem hb
  exact u.free b o ho (stk b hb) (by simp)
 refine leave_next (base:=X.base) (hst ▸ I.ok.frames) FF' hfr F fun h2 T2 hT2 F2 K=>?_
 have ht:∀ b,s.heap.get? b ≠ none->b < s'.heap.objs.size:=fun b hb=>by
  cases q:s.heap.get? b with
  | none=>exact absurd q hb
  | some o=>
   obtain ⟨o',q'⟩:=u.there b o q (by simp)
   exact Heap.lt_size q'
 refine ⟨ea,T2,cls,dx,H',rfl,hos.trans I.os,hg,I.out hst hex u ne nT K,hok.kept_but K fr' fe fT,I.new0 hex ne,I.new0 hex ?_,fe,hok.fresh hT2,F2,hE⟩
 cases q:s.heap.get? T2 with
 | none=>rfl
 | some o=>exact absurd (ht T2 (by rw [q]; exact fun z=>nomatch z)) (Nat.not_lt.mpr hT2)
end
section
variable {P:Program} {w:World} {K:PySem.W.Frag} {mg:Str->Option Value} {base:Heap} {N:List Str} {qual:Str} {scope:Scope} {f:Addr} {cd:Value} {A:Around} {outer:List Env} {s0:Shared} {H0:Hp} {E:XK}
theorem passE:Passes (CXE P w) (cxOf (CXE P w) P w K mg base N qual scope f cd A outer s0 H0 E) E:=fun _ _ _ _ _ _ I hx=>leaves_ok I rfl rfl rfl hx
theorem ownE:PassesOwn (model P w) (cxOf (CXE P w) P w K mg base N qual scope f cd A outer s0 H0 E).A (cxOf (CXE P w) P w K mg base N qual scope f cd A outer s0 H0 E).env (cxOf (CXE P w) P w K mg base N qual scope f cd A outer s0 H0 E).xe:=PassesOwn.leaving
theorem Fun.okE {x:Str} {st:Stmt} {fd:FuncData} {ps:List Str} {k:Nat} {sp:Sp} (F:Fun K x qual st f fd) (S:FnScope N ps (defScope st)) (len:∀ vs H Q E,sp vs H Q E->vs.length=ps.length)
 (hbody:∀ (cdv:Value) (A:Around) (outer:List Env) (s:Shared) (H:Hp) (vs:List V) (Q:VK) (E:XK),Room k (A.deeper (envOfC qual (defScope st) s.heap.objs.size f cdv))->sp vs H Q E ->
  ∃ t,PSs (cxOf (CXE P w) P w K mg base N qual (defScope st) f cdv A outer s H E) (defBody st) t/\t { nx:=fun _ H'=>Q .non H',rt:=Q } (start N vs) H):FnOk P w K mg base (CXE P w) (k + 1) f fd ps sp:=by
 obtain ⟨oc,od,kV,doc,pm,an,cdv,ct,osl,rfl,lk,hcd⟩:=F.ex
 exact fn_of lk hcd S len fun A outer s H vs Q E hr hsp=>hbody cdv A outer s H vs Q E hr hsp
end
theorem ObjOk.there {P:Program} {w:World} {H:Hp} {h:Heap} {a:Addr} {o:HO} (x:ObjOk P w H h a o):∃ u,h.get? a=some u:=by
 cases o with
 | lst xs=>obtain ⟨_,_,_,_,e⟩:=x; exact ⟨_,e⟩
 | tup xs=>obtain ⟨_,_,_,ob,e,_⟩:=x; exact ⟨_,e⟩
 | dK kvs=>obtain ⟨_,_,_,_,ob,_,_,e,_⟩:=x; exact ⟨_,e⟩
 | dT kvs=>obtain ⟨_,_,_,_,ob,_,_,e,_⟩:=x; exact ⟨_,e⟩
 | set S n=>obtain ⟨ob,_,_,_,e,_⟩:=x; exact ⟨_,e⟩
 | ins C dx fs=>obtain ⟨_,_,_,e,_⟩:=x; exact ⟨_,e⟩
 | own y=>obtain ⟨_,e⟩:=x; exact ⟨_,e⟩
 | xd fs=>obtain ⟨_,⟨_,_,_,e,_⟩,_⟩:=x; exact ⟨_,e⟩
 | rng lo hi=>obtain ⟨_,_,_,e⟩:=x; exact ⟨_,e⟩
 | frz ob u=>obtain ⟨e,_⟩:=x; exact ⟨_,e⟩
 | tbl ps=>exact ⟨_,show h.get? a=some _ from x⟩
 | met f y=>exact ⟨_,show h.get? a=some _ from x⟩
 | ext φ=>obtain ⟨_,⟨_,e⟩,_⟩:=x; exact ⟨_,e⟩
theorem HOk.new {P:Program} {w:World} {H:Hp} {h:Heap} {a:Addr} (hok:HOk P w H h) (n:h.get? a=none):H a=none:=by
 cases q:H a with
 | none=>rfl
 | some o=>
  obtain ⟨u,e⟩:=(hok a o q).there
  rw [n] at e
  cases e
abbrev excMro:List Value:=[.type "Exception",.type "BaseException",.type "object"]
end L2
end
section
namespace Q
open PySem PySem.Spec PyProof.Rows L2 Omega
def top (i:Nat):Stmt:=PySem.Challenge.pw_exactqubits_s13_form.main.body.getD i (.Pass ⟨0,0,0,0⟩)
abbrev s_undone:Stmt:=top 6
abbrev s_circuit_read:Stmt:=top 29
abbrev s_block_begun:Stmt:=top 30
abbrev s_close_blocks:Stmt:=top 31
abbrev s_followed:Stmt:=top 43
abbrev s_effect_of:Stmt:=top 44
abbrev s_word_of:Stmt:=top 45
abbrev s_with_t_ahead:Stmt:=top 46
abbrev s_form:Stmt:=top 49
abbrev s_Fault_init:Stmt:=inClass (top 26) 0
abbrev s_Block_init:Stmt:=inClass (top 27) 0
abbrev s_Block_take:Stmt:=inClass (top 27) 1
abbrev s_Block_hand_over:Stmt:=inClass (top 27) 2
abbrev s_Reader_init:Stmt:=inClass (top 28) 0
abbrev s_Reader_byte_here:Stmt:=inClass (top 28) 1
abbrev s_Reader_peek:Stmt:=inClass (top 28) 2
abbrev s_Reader_accept:Stmt:=inClass (top 28) 3
abbrev s_Reader_digit_here:Stmt:=inClass (top 28) 4
abbrev s_Reader_number:Stmt:=inClass (top 28) 5
abbrev s_Reader_gate:Stmt:=inClass (top 28) 6
structure DefAt (K:PySem.W.Frag) (mg:Str->Option Value) (x:Str) (st:Stmt) (ps:List Str) (f:Addr) (fd:FuncData):Prop where
 F:Fun K x x st f fd
 b:Binds K fd ps []
 m:mg x=some (.ref f)
structure MethAt (K:PySem.W.Frag) (C:Addr) (x q:Str) (st:Stmt) (ps:List Str) (f:Addr) (fd:FuncData):Prop where
 F:Fun K x q st f fd
 b:Binds K fd ps []
 me:Meth K C x f
structure InitAt (K:PySem.W.Frag) (mg:Str->Option Value) (x q:Str) (C:Addr) (st:Stmt) (ps:List Str) (f:Addr) (fd:FuncData):Prop where
 c:Cls K C
 m:mg x=some (.ref C)
 made:Mk K C f
 F:Fun K "__init__" q st f fd
 b:Binds K fd ps []
def IntAt (mg:Str->Option Value) (x:Str) (i:Int):Prop:=∃ t,mg x=some (.int i t)
structure TupAt (K:PySem.W.Frag) (mg:Str->Option Value) (x:Str) (a:Addr) (ns:List Int):Prop where
 m:mg x=some (.ref a)
 at_:∀ H,SqT K H a (ns.map V.int)
set_option genInjectivity false in
set_option genSizeOf false in
structure Tx (K:PySem.W.Frag) (mg:Str->Option Value) where
 f_undone:Addr
 g_undone:FuncData
 d_undone:DefAt K mg "undone" s_undone ["gates"] f_undone g_undone
 f_circuit_read:Addr
 g_circuit_read:FuncData
 d_circuit_read:DefAt K mg "circuit_read" s_circuit_read ["text","qubits"] f_circuit_read g_circuit_read
 f_block_begun:Addr
 g_block_begun:FuncData
 d_block_begun:DefAt K mg "block_begun" s_block_begun ["reader","blocks"] f_block_begun g_block_begun
 f_close_blocks:Addr
 g_close_blocks:FuncData
 d_close_blocks:DefAt K mg "close_blocks" s_close_blocks ["reader","blocks"] f_close_blocks g_close_blocks
 f_followed:Addr
 g_followed:FuncData
 d_followed:DefAt K mg "followed" s_followed ["first","second"] f_followed g_followed
 f_effect_of:Addr
 g_effect_of:FuncData
 d_effect_of:DefAt K mg "effect_of" s_effect_of ["word"] f_effect_of g_effect_of
 f_word_of:Addr
 g_word_of:FuncData
 d_word_of:DefAt K mg "word_of" s_word_of ["gates"] f_word_of g_word_of
 f_with_t_ahead:Addr
 g_with_t_ahead:FuncData
 d_with_t_ahead:DefAt K mg "with_t_ahead" s_with_t_ahead ["g","start","pieces"] f_with_t_ahead g_with_t_ahead
 f_form:Addr
 g_form:FuncData
 d_form:DefAt K mg "form" s_form ["text"] f_form g_form
 C_Fault:Addr
 C_Block:Addr
 f_Block_init:Addr
 g_Block_init:FuncData
 d_Block:InitAt K mg "Block" "Block.__init__" C_Block s_Block_init ["self","backwards"] f_Block_init g_Block_init
 f_Block_take:Addr
 g_Block_take:FuncData
 d_Block_take:MethAt K C_Block "take" "Block.take" s_Block_take ["self","total","gates"] f_Block_take g_Block_take
 f_Block_hand_over:Addr
 g_Block_hand_over:FuncData
 d_Block_hand_over:MethAt K C_Block "hand_over" "Block.hand_over" s_Block_hand_over ["self","times","outer"] f_Block_hand_over g_Block_hand_over
 n_Block_backwards:NoAttr K C_Block "backwards"
 n_Block_total:NoAttr K C_Block "total"
 n_Block_gates:NoAttr K C_Block "gates"
 C_Reader:Addr
 f_Reader_init:Addr
 g_Reader_init:FuncData
 d_Reader:InitAt K mg "Reader" "Reader.__init__" C_Reader s_Reader_init ["self","text","qubits"] f_Reader_init g_Reader_init
 f_Reader_byte_here:Addr
 g_Reader_byte_here:FuncData
 d_Reader_byte_here:MethAt K C_Reader "byte_here" "Reader.byte_here" s_Reader_byte_here ["self"] f_Reader_byte_here g_Reader_byte_here
 f_Reader_peek:Addr
 g_Reader_peek:FuncData
 d_Reader_peek:MethAt K C_Reader "peek" "Reader.peek" s_Reader_peek ["self"] f_Reader_peek g_Reader_peek
 f_Reader_accept:Addr
 g_Reader_accept:FuncData
 d_Reader_accept:MethAt K C_Reader "accept" "Reader.accept" s_Reader_accept ["self","byte"] f_Reader_accept g_Reader_accept
 f_Reader_digit_here:Addr
 g_Reader_digit_here:FuncData
 d_Reader_digit_here:MethAt K C_Reader "digit_here" "Reader.digit_here" s_Reader_digit_here ["self"] f_Reader_digit_here g_Reader_digit_here
 f_Reader_number:Addr
 g_Reader_number:FuncData
 d_Reader_number:MethAt K C_Reader "number" "Reader.number" s_Reader_number ["self","most","used"] f_Reader_number g_Reader_number
 f_Reader_gate:Addr
 g_Reader_gate:FuncData
 d_Reader_gate:MethAt K C_Reader "gate" "Reader.gate" s_Reader_gate ["self"] f_Reader_gate g_Reader_gate
 n_Reader_text:NoAttr K C_Reader "text"
 n_Reader_qubits:NoAttr K C_Reader "qubits"
 n_Reader_at:NoAttr K C_Reader "at"
 i_H_GATE:IntAt mg "H_GATE" 3
 i_S_GATE:IntAt mg "S_GATE" 4
 i_S_BACK_GATE:IntAt mg "S_BACK_GATE" 5
 i_T_BACK_GATE:IntAt mg "T_BACK_GATE" 7
 i_MOST_BYTES:IntAt mg "MOST_BYTES" 4096
 i_MOST_GATES:IntAt mg "MOST_GATES" 2000
 i_MOST_TIMES:IntAt mg "MOST_TIMES" 1000
 i_MOST_BRACKETS:IntAt mg "MOST_BRACKETS" 16
 i_END:IntAt mg "END" (-1)
 i_SPACE:IntAt mg "SPACE" 32
 i_LINE_END:IntAt mg "LINE_END" 10
 i_QUOTE:IntAt mg "QUOTE" 39
 i_LEFT:IntAt mg "LEFT" 40
 i_RIGHT:IntAt mg "RIGHT" 41
 i_COMMA:IntAt mg "COMMA" 44
 i_DIGIT_0:IntAt mg "DIGIT_0" 48
 i_DIGIT_9:IntAt mg "DIGIT_9" 57
 i_SEMICOLON:IntAt mg "SEMICOLON" 59
 i_QUESTION:IntAt mg "QUESTION" 63
 i_CARET:IntAt mg "CARET" 94
 i_TILDE:IntAt mg "TILDE" 126
 i_TOO_LARGE:IntAt mg "TOO_LARGE" (-2)
 i_TOO_MANY:IntAt mg "TOO_MANY" (-5)
 i_FAULTY:IntAt mg "FAULTY" (-6)
 i_Z_AXIS:IntAt mg "Z_AXIS" 3
 i_MOST_GATES_OF_A_FORM:IntAt mg "MOST_GATES_OF_A_FORM" 500
 a_UNDOING:Addr
 t_UNDOING:TupAt K mg "UNDOING" a_UNDOING [0,1,2,3,5,4,7,6]
 a_STAYING:Addr
 t_STAYING:TupAt K mg "STAYING" a_STAYING [1,2,3]
 b_len:mg "len" = none
 b_range:mg "range" = none
 b_list:mg "list" = none
 b_max:mg "max" = none
 b_min:mg "min" = none
 b_enumerate:mg "enumerate" = none
 b_zip:mg "zip" = none
 b_reversed:mg "reversed" = none
 b_all:mg "all" = none
 b_sum:mg "sum" = none
 b_sorted:mg "sorted" = none
 b_Exception:mg "Exception" = none
 b_ord:mg "ord" = none
 b_abs:mg "abs" = none
 b_tuple:mg "tuple" = none
section
variable {X:Cx}
def tAt (K:PySem.W.Frag) (i k:Nat):TE:=fun σ H Q=>∃ t xs v,σ[i]? = some (some (.ref t))/\SqT K H t xs/\xs[k]? = some v/\Q v H
theorem pe_at (i k:Nat) {x:Str} {p1 p2 pos:Pos} {j:Nat} (hN:X.N[i]? = some x:=by rfl) (hv:Vis X.env.scope x:=by first | exact Or.inl rfl | exact Or.inr (Or.inl rfl) | exact Or.inr (Or.inr rfl)) (hd:(x == ("__debug__" : Str))=false:=by decide)
 (hcd:(x == ("__classdict__" : Str))=false:=by decide):PE X (.Subscript (.Name x p1) (.Constant (.int k) j p2) pos) (tAt X.K i k):=by
 intro pins s σ H Q I h
 obtain ⟨t,xs,v,h1,h2,h3,h4⟩:=h
 exact pe_ix ix_tup (pv i hN hv hd hcd) pe_int (fun _ _=>rfl) pins s σ H Q I ⟨_,h1,t,xs,k,v,rfl,rfl,h2,atI_nat h3,h4⟩
theorem pe_atK (K0:PySem.W.Frag) (i k:Nat) {x:Str} {p1 p2 pos:Pos} {j:Nat} (hN:X.N[i]? = some x:=by rfl) (hv:Vis X.env.scope x:=by first | exact Or.inl rfl | exact Or.inr (Or.inl rfl) | exact Or.inr (Or.inr rfl)) (hd:(x == ("__debug__" : Str))=false:=by decide)
 (hcd:(x == ("__classdict__" : Str))=false:=by decide) (hK:X.K=K0:=by rfl):PE X (.Subscript (.Name x p1) (.Constant (.int k) j p2) pos) (tAt K0 i k):=by
 subst hK
 exact pe_at i k hN hv hd hcd
theorem ix_tupK (K0:PySem.W.Frag) (hK:X.K=K0:=by rfl):IxR X (rIxT K0):=by
 subst hK
 exact ix_tup
theorem op_eqDK (K0:PySem.W.Frag) (hu:X.A.units + 64 < cLine) (hK:X.K=K0:=by rfl):OpR X (compareOp .Eq) (rEqD K0):=by
 subst hK
 exact op_eqD hu
end
theorem _root_.L2.Same.upd {H:Hp} {p:Addr} {o:HO} (h:H p=none):Same H (upd H p o):=fun b u e=>by rw [upd_ne (ne_of_none e h)]; exact e
theorem _root_.L2.Same.tup {K:PySem.W.Frag} {H H':Hp} {a:Addr} {xs:List V} (e:Same H H') (h:SqT K H a xs):SqT K H' a xs:=by
 rcases h with (h | ⟨o,h⟩) | h
 . exact .inl (.inl (e _ _ h))
 . exact .inl (.inr ⟨o,e _ _ h⟩)
 . exact .inr h
end Q
end
section
end
section
end
section
namespace OmMath
open Omega
theorem bool_eq_of {a b:Bool} (h:a=true <-> b=true):a=b:=by
 cases a <;> cases b <;> simp_all
theorem bit_room:∀ n < 7,∀ q < n,∀ j < 2 ^ n,j.testBit q=false->j + 2 ^ q < 2 ^ n:=by decide +kernel
theorem pow_le {n:Nat} (h:n<=6):2 ^ n<=64:=Nat.pow_le_pow_right (by decide) h
structure GateOk (n q c:Nat):Prop where
 hn:n<=6
 hq:q < n
 hc:c < 2 ^ n
 hf:c.testBit q=false
end OmMath
end
section
end
section
end
section
namespace Q
open PySem PySem.Spec PyProof.Rows L2 Omega OmMath
def But (D:Addr) (H H':Hp):Prop:=∀ b u,b ≠ D->H b=some u->H' b=some u
theorem _root_.L2.Same.but {D:Addr} {H H':Hp} (e:Same H H'):But D H H':=fun b u _ q=>e b u q
theorem But.upd {D:Addr} {H:Hp} {o:HO}:But D H (L2.upd H D o):=fun b u n q=>by rw [upd_ne n]; exact q
theorem But.tup {K:PySem.W.Frag} {D:Addr} {H H':Hp} {a:Addr} {xs ys:List V} (e:But D H H') (hD:H D=some (.lst ys)) (h:SqT K H a xs):SqT K H' a xs:=by
 rcases h with (h | ⟨o,h⟩) | h
 . exact .inl (.inl (e _ _ (ne_of h hD (by intro z; cases z)) h))
 . exact .inl (.inr ⟨o,e _ _ (ne_of h hD (by intro z; cases z)) h⟩)
 . exact .inr h
theorem small {n:Nat} (h:n<=64):n < sizeLine:=Nat.lt_of_le_of_lt h (by decide)
theorem take_snoc {α:Type} {l:List α} {i:Nat} {x:α} (h:l[i]? = some x):l.take (i + 1)=l.take i ++ [x]:=by
 rw [List.take_add_one,h]
 rfl
end Q
end
section
end
section
end
section
namespace Q
open PySem PySem.Spec PyProof.Rows L2 Omega OmMath
theorem But.trans {D:Addr} {H H1 H2:Hp} (a:But D H H1) (b:But D H1 H2):But D H H2:=fun c o n q=>b c o n (a c o n q)
end Q
end
section
end
section
namespace Q
open PySem PySem.Spec PyProof.Rows L2 Omega OmMath
def keyed (kvs:List (Int × V)):List (Key × V):=kvs.map fun kv=>((Sum.inl kv.1:Key),kv.2)
structure DicAt (K:PySem.W.Frag) (mg:Str->Option Value) (x:Str) (a:Addr) (kvs:List (Int × V)):Prop where
 m:mg x=some (.ref a)
 ne:(a == sysModules)=false
 at_:∀ (P:Program) (w:World) (h:Heap),K.In h->∃ vs,KV (keyed kvs) vs/\h.DictOf (mixKind P w) a vs
section
variable {X:Cx} {i:Expr} {ty:TE} {x:Str} {a:Addr} {kvs:List (Int × V)} {p pos:Pos}
def tTop (kvs:List (Int × V)) (ty:TE):TE:=fun σ H Q=>ty σ H fun y H1=>∃ n v,y = .int n/\valV (keyed kvs) (Sum.inl n)=some v/\Q v H1
theorem pe_top (D:DicAt X.K X.mg x a kvs) (hg:Gl X x) (hi:PE X i ty) (hs:NoSl i) (hd:(x == ("__debug__" : Str))=false:=by decide):PE X (.Subscript (.Name x p) i pos) (tTop kvs ty):=by
 intro pins s σ H Q I h
 refine subD_of PySem.F.slot_dict_getitem.lookup hs (ld_glob I hg D.m (thn (hi pins s σ H _ I h) fun iv s2 ⟨y,H2,I2,ry,n,v,ey,hv,q⟩=>?_) hd)
 subst ey
 obtain ⟨vs,rel,dd⟩:=D.at_ X.prog X.w s2.heap I2.kIn
 obtain ⟨w',hw,rw'⟩:=RelO.some_of (v:=v) (o:=valueAt vs (Sum.inl n)) (by rw [<- hv]; exact rel.val _)
 exact ⟨dd.typeIs,wpAny_getItem_of (kV_is (k:=Sum.inl n) ry) dd.mapOf hw ⟨v,H2,I2.tok _,rw',q⟩⟩
def tTopIn (kvs:List (Int × V)) (ty:TE):TE:=fun σ H Q=>ty σ H fun y H1=>∃ n,y = .int n/\Q (.bl (valV (keyed kvs) (Sum.inl n)).isSome) H1
theorem pc_topIn (D:DicAt X.K X.mg x a kvs) (hg:Gl X x) (hi:PE X i ty) (hd:(x == ("__debug__" : Str))=false:=by decide):PC X .In i (.Name x p) (tTopIn kvs ty):=by
 intro pins s σ H Q I h
 refine thn (hi pins s σ H _ I h) fun iv s1 ⟨y,H1,I1,ry,n,ey,q⟩=>ld_glob I1 hg D.m ?_ hd
 subst ey
 obtain ⟨vs,rel,dd⟩:=D.at_ X.prog X.w s1.heap I1.kIn
 refine wpAny_in_of (kV_is (k:=Sum.inl n) ry) D.ne dd.mapOf ?_
 rw [<- (rel.val (Sum.inl n)).isSome_eq]
 exact ⟨.bl _,H1,I1.tok _,rfl,q⟩
end
def natV (ns:List Nat):List V:=ns.map fun (i:Nat)=>V.int (i:Int)
theorem natV_length (ns:List Nat):(natV ns).length=ns.length:=List.length_map _
theorem boot_len':bootBuiltins "len" = some (.builtin "len"):=by decide +kernel
theorem bitOr_nat (x y:Nat):Builtin.bitOr (x:Int) (y:Int)=((x ||| y:Nat):Int):=by
 rw [Bits.bitOr_pp (Int.natCast_nonneg x) (Int.natCast_nonneg y)]
 rfl
end Q
end
section
end
section
end
section
namespace Q
open PySem PySem.Spec PyProof.Rows L2
section
variable {X:Cx}
def rN (g:Nat->Nat->Nat):R2:=fun x y H Q=>∃ i j:Nat,x = .int (i:Int)/\y = .int (j:Int)/\Q (.int ((g i j:Nat):Int)) H
theorem opN_of {f:Value->Value->Sem Value} {r:Int->Int->Int} (g:Nat->Nat->Nat) (h:OpR X f (rI0 fun i j=>.int (r i j))) (e:∀ i j:Nat,r (i:Int) (j:Int)=((g i j:Nat):Int)):OpR X f (rN g):=by
 intro pins s σ H x y v u Q I rx ry q
 obtain ⟨i,j,ex,ey,q⟩:=q
 refine h pins s σ H x y v u Q I rx ry ⟨i,j,ex,ey,?_⟩
 show Q (.int (r i j)) H
 rw [e]
 exact q
theorem op_shlN:OpR X (binaryOp .LShift) (fun x y H Q=>∃ i j:Nat,x = .int (i:Int)/\y = .int (j:Int)/\i < 2 ^ 32/\j<=1000/\Q (.int ((i * 2 ^ j:Nat):Int)) H):=by
 intro pins s σ H x y v u Q I rx ry ⟨i,j,ex,ey,hi,hj,q⟩
 refine op_shl pins s σ H x y v u Q I rx ry ⟨i,j,ex,ey,⟨Int.natCast_nonneg _,by omega,?_⟩,?_⟩
 . rw [Int.natAbs_natCast]
   exact Nat.lt_of_lt_of_le hi (by decide)
 . show Q (.int ((i:Int) * 2 ^ (j:Int).toNat)) H
   have e:((i:Int) * 2 ^ (j:Int).toNat)=((i * 2 ^ j:Nat):Int):=by
    rw [Int.toNat_natCast,Int.natCast_mul,Int.natCast_pow]
    rfl
   rw [e]
   exact q
theorem op_shl1:OpR X (binaryOp .LShift) (fun x y H Q=>∃ q:Nat,x = .int 1/\y = .int (q:Int)/\q<=1000/\Q (.int ((2 ^ q:Nat):Int)) H):=by
 intro pins s σ H x y v u Q I rx ry ⟨q,ex,ey,hq,k⟩
 refine op_shlN pins s σ H x y v u Q I rx ry ⟨1,q,ex,ey,by decide,hq,?_⟩
 rw [Nat.one_mul]
 exact k
end
end Q
end
section
namespace Q
open PySem PySem.Spec PyProof.Rows L2 Omega OmMath
set_option genInjectivity false in
set_option genSizeOf false in
structure Dx (K:PySem.W.Frag) (mg:Str->Option Value) (T:Tx K mg) where
 a_LETTERS:Addr
 t_LETTERS:DicAt K mg "LETTERS" a_LETTERS [(120,.int 0),(121,.int 1),(122,.int 2),(104,.int 3),(115,.int 4),(116,.int 6)]
section
variable {P:Program} {w:World} {K:PySem.W.Frag} {mg:Str->Option Value} {base:Heap}
theorem Same.grown {H H2:Hp} {D:Addr} {o:HO} (hD:H D=none) (e:Same H H2):Same H (L2.upd H2 D o):=fun b u q=>by rw [upd_ne (ne_of_none q hD)]; exact e b u q
end
end Q
end
section
end
section
end
section
end
section
end
section
end
section
end
section
end
section
namespace OmMath
open Omega
theorem bit_add:∀ e < 6,∀ x < 64,x.testBit e=false->x + 2 ^ e < 64/\∀ j < 6,(x + 2 ^ e).testBit j=(j == e || x.testBit j):=by decide +kernel
end OmMath
end
section
end
section
end
section
namespace L2
open PySem PySem.Spec PyProof.Rows PySem.W PySem.Builtin PySem.Builtin.ObjectAttr
theorem refuse_exc (self:Value) (C:Addr):refuseLoop self "__setattr__" (.ref C :: excMro)=pure ():=by
 rw [refuseLoop_ref]
 kernel_rfl
section
variable {prog:Program} {w:World} {A:Around} {E:Value->Shared->Prop} {s:Shared} {K:Frag} {C x:Addr} {vs:Array Value} {v:Value} {name:Str}
theorem exc_inst (he:s.heap.get? x=some ⟨.ref C,none,.fields vs,#[]⟩):InstAt s.heap x ⟨.ref C,none,.fields vs,#[]⟩ C none:=⟨he,rfl,rfl,trivial⟩
theorem exc_set {Q:Unit->Shared->Prop} {cd:ClassData} (X:K.In s.heap) (he:s.heap.get? x=some ⟨.ref C,none,.fields vs,#[]⟩) (hs:findIn K (.ref C) "__setattr__" = some (some (.builtin "object.__setattr__")))
 (hc:clsIn K C=some cd) (hm:cd.mro = .ref C :: excMro) (hd:cd.hasDict=true) (ht:findIn K (.ref C) name=some none)
 (h:∀ h',h'.Ns1 s.heap.objs.size (fun y=>if y=name then some v else none)->h'.get? x=some ⟨.ref C,some s.heap.objs.size,.fields vs,#[]⟩->(∀ b o,b ≠ x->s.heap.get? b=some o->h'.get? b=some o)->Q () { s with heap:=h',toks:=s.toks + 2 }) :
 wpAny (model prog w) A (setAttr (.ref x) name v) Q E s:=by
 have I:=exc_inst he
 refine set_plain X I hs ?_
 have SF:=PySem.F.store_object
 have sub:Looks (model prog w) s.heap (isInstance (.ref x) (.type "object")) true:=I.type.andThen (looks_mroIn X (by
  unfold mroIn
  rw [hc,Option.bind_some,hm]
  rfl))
 refine codeAny_call_builtin SF.slot.plain SF.entry (@check_slot (model prog w) _ _ _ "object.__setattr__" "object" "__setattr__" (.ref x) [.str name s.toks,v] [] _ SF.kind SF.split sub (SF.args (.ref x) (.str name s.toks) v) ?_)
 have hmro:Looks (model prog w) s.heap (mroOf (.ref C)) cd.mro:=(looks_clsIn X hc).andThen .now
 have L3:Looks (model prog w) s.heap (storeTaker? none) none:=.now
 rw [osa_eq,refuse_eq]
 refine wpAny_bind (wpAny_bind (I.type.here (s:={ s with toks:=s.toks + 1 }) (wpAny_bind (hmro.here (s:={ s with toks:=s.toks + 1 }) ?_))))
 rw [hm,refuse_exc]
 refine wpAny_pure (wpAny_bind (I.type.here (s:={ s with toks:=s.toks + 1 }) (wpAny_bind ((looks_findIn X ht).here (s:={ s with toks:=s.toks + 1 }) (wpAny_bind (L3.here (s:={ s with toks:=s.toks + 1 }) ?_))))))
 show wpAny _ _ (storeInOwnDict (.ref x) (.ref C) (.str name s.toks) name v false) _ _ _
 unfold storeInOwnDict
 refine wpAny_bind (wpAny_pure ?_)
 have nm:¬ ((Value.ref C == Value.type "module")=true):=by simp
 dsimp only
 rw [if_neg nm]
 refine wpAny_bind ?_
 show wpAny _ _ (instanceDict x true) _ _ _
 unfold instanceDict
 refine wpAny_bind (wpAny_loadPart he ?_)
 dsimp only
 refine wpAny_bind ((looks_clsIn X hc).here (s:={ s with toks:=s.toks + 1 }) ?_)
 rw [hd]
 simp only [Bool.not_true,Bool.false_eq_true,if_false,typeHasDict,Bool.or_self]
 refine wpAny_bind (wpAny_alloc ?_)
 have he2:=Heap.get?_push_of_some (h:=s.heap) { cls:=.type "dict",data:=.dict #[] } he
 refine wpAny_bind (wpAny_update he2 ?_)
 have nxd:s.heap.objs.size ≠ x:=Nat.ne_of_gt (Heap.lt_size he)
 have d0:=Heap.get?_push_size s.heap (o:={ cls:=.type "dict",data:=.dict #[] }) rfl
 have x1:=Heap.get?_update_self (fun o=>{ o with dict:=some s.heap.objs.size }) he2 rfl
 have d1:=(Heap.get?_update_other (s.heap.push { cls:=.type "dict",data:=.dict #[] }) (fun o=>{ o with dict:=some s.heap.objs.size }) (Ne.symm nxd)).trans d0
 have ns:=Heap.Ns1.of_empty (⟨_,#[],_,d1,rfl,(fun e he=>absurd he (by simp)),fun _=>rfl⟩:Heap.Ns _ _ (fun _=>none))
 show wpAny _ _ (pure (some s.heap.objs.size)) _ _ _
 refine wpAny_pure ?_
 dsimp only
 unfold storeInDict newKeyGuard
 refine wpAny_bind (wpAny_pure (wpAny_bind (wpAny_nsSet1 ns fun h2 n2 sb2=>?_)))
 obtain ⟨oD,esD,epD,hoD,hdD,hcD⟩:=n2.count (PySem.Within.cons name v (ns:=[]) (fun y hy=>absurd rfl hy))
 refine wpAny_bind (wpAny_lookBehind hoD (by rw [hdD]; exact pastItsLine_dict (Nat.le_trans hcD (by show 1<=sizeLine + 1; decide))) ?_)
 refine wpAny_pure (h h2 n2 ((sb2.2 x (Ne.symm nxd)).trans x1) fun b o hb q=>?_)
 have nb:b ≠ s.heap.objs.size:=Nat.ne_of_lt (Heap.lt_size q)
 rw [sb2.2 b nb,Heap.get?_update_other _ _ (Ne.symm hb)]
 exact Heap.get?_push_of_some _ q
end
end L2
end
section
namespace L2
open PySem PySem.Spec PyProof.Rows Exn
def fx0 (C x:Addr):Heap->Prop:=fun h=>∃ vs t,h.get? x=some ⟨.ref C,none,.fields vs,#[]⟩/\vs[0]? = some (.ref t)/\vs[1]? = some .none
def fx1 (C x d:Addr):Heap->Prop:=fun h=>∃ vs t,h.get? x=some ⟨.ref C,some d,.fields vs,#[]⟩/\vs[0]? = some (.ref t)/\vs[1]? = some .none
theorem fx0_ok {P:Program} {w:World} {H:Hp} {h:Heap} {C x:Addr} (e:fx0 C x h):ObjOk P w H h x (.ext (fx0 C x)):=
 ⟨e,let ⟨_,_,q,_⟩:=e; ⟨_,q⟩,fun _ _ ⟨vs,t,q,r⟩ k=>⟨vs,t,k _ q,r⟩⟩
theorem fx1_ok {P:Program} {w:World} {H:Hp} {h:Heap} {C x d:Addr} (e:fx1 C x d h):ObjOk P w H h x (.ext (fx1 C x d)):=
 ⟨e,let ⟨_,_,q,_⟩:=e; ⟨_,q⟩,fun _ _ ⟨vs,t,q,r⟩ k=>⟨vs,t,k _ q,r⟩⟩
theorem upd_id {H:Hp} {a:Addr} {o:HO} (h:H a=some o):upd H a o=H:=by
 funext b
 unfold upd
 split
 . rename_i e
   rw [e,h]
 . rfl
structure FaultAt (K:PySem.W.Frag) (mg:Str->Option Value) (C fi:Addr) (g:FuncData):Prop where
 m:mg "Fault" = some (.ref C)
 kp:PySem.W.keepIn K (.ref C)=true
 obj:∃ N nm qn bs sn sub ab col dd k0 k1 k2 k3 k5,K.lookup C=some (excClassObj nm qn C N bs excMro true sn sub ab col dd k0 k1 k2 k3 k5 "Exception.__new__")/\PySem.W.nsOkIn K N=true/\PySem.W.nsIn K N "__init__" = some (some (.ref fi))
 cls:∃ cd:ClassData,PySem.W.clsIn K C=some cd/\cd.mro = .ref C :: excMro/\cd.hasDict=true
 fn:PySem.W.isFn K (.ref fi)=true
 fo:∃ o,K.lookup fi=some o/\o.cls = .type "function"
 sa:PySem.W.findIn K (.ref C) "__setattr__" = some (some (.builtin "object.__setattr__"))
 ga:PySem.W.findIn K (.ref C) "__getattribute__" = some (some (.builtin "BaseException.__getattribute__"))
 gx:PySem.W.findIn K (.ref C) "__getattr__" = some none
 pl:PySem.W.findIn K (.ref C) "place" = some none
 ei:PySem.W.findCls K (.type "Exception") (.type "type") "__init__" = some (.val (.builtin "Exception.__init__"))
 F:Fun K "__init__" "Fault.__init__" Q.s_Fault_init fi g
 b:Binds K g ["self","place"] []
section
variable {X:Cx} {pins:List (Addr × Obj)} {σ:St} {H:Hp} {s:Shared} {C x fi:Addr} {g:FuncData}
def tExcInit (C:Addr) (t:TA):TE:=fun σ H Q=>t σ H fun vs H1=>∃ a,vs=[.ref a]/\H1 a=some (.ext (fx0 C a))/\Q .non H1
theorem exc_init {E:Value->Shared->Prop} {A:Around} {Q:Value->Shared->Prop} (Z:FaultAt X.K X.mg C fi g) (I:Inv X pins σ H s) (e:H x=some (.ext (fx0 C x))) (h:∀ s',Inv X pins σ H s'->Q .none s') :
 wpAny (model X.prog X.w) A (call (.builtin "Exception.__init__") [.ref x]) Q E s:=by
 obtain ⟨⟨vs,t,he,h0,h1⟩,_⟩:=I.hok x _ e
 obtain ⟨N,nm,qn,bs,sn,sub,ab,col,dd,k0,k1,k2,k3,k5,hC,_,_⟩:=Z.obj
 have hC:=I.kIn _ _ hC
 have FE:=PySem.F.excBase_Exception
 refine wpAny_call (codeAny_call_builtin FE.init.plain FE.initEntry ?_)
 obtain ⟨hp,gs,d,tk,os⟩:=s
 refine wpAny_check_init_sub FE hC he rfl ?_
 refine PySem.W.owsi_base (s:=⟨hp,gs,d,tk,os⟩) he rfl h0 ?_
 have z:0 < vs.size:=(Array.getElem?_eq_some_iff.mp h0).1
 have he1:=Heap.get?_push_of_some (h:=hp) { cls:=.type "tuple",data:=.seq #[] } he
 have u:=Heap.get?_update_self (Obj.mapFields (·.setIfInBounds 0 (.ref hp.objs.size))) he1 rfl
 refine h _ ?_
 have I2:=I.write (x:=x) (e:=x) (o:=.ext (fx0 C x)) (h':=(hp.push { cls:=.type "tuple",data:=.seq #[] }).update x (Obj.mapFields (·.setIfInBounds 0 (.ref hp.objs.size)))) (t':=tk) (by rw [e]; exact True.intro) (.inl rfl)
  (fun b o hb q=>by rw [Heap.get?_update_other _ _ (Ne.symm hb)]; exact Heap.get?_push_of_some _ q) ⟨_,u⟩ (fx0_ok ⟨_,hp.objs.size,u,by simp [z],by rw [Array.getElem?_setIfInBounds_ne (by decide)]; exact h1⟩)
 rw [upd_id e] at I2
 exact I2
theorem pe_excInit {ap np pos:Pos} {e:Expr} {t:TA} {pl:Sem Bool} (Z:FaultAt X.K X.mg C fi g) (hg:Gl X "Exception") (hm:X.mg "Exception" = none) (ha:PA X [e] t)
 (he:starEach [e] X.env=[(false,eval e X.env)]:=by rfl)
 (ht:eval (.Call (.Attribute (.Name "Exception" np) "__init__" ap) [e] [] pos) X.env=(do
  let ov <- eval (.Name "Exception" np) X.env
  standAt ap.atName
  let (f,first) <- holding [ov] (getMethod ov "__init__" pl)
  callWith pos f first (backTo pos (starEach [e] X.env)) (backToKw pos (keywordEach [] X.env))):=by rfl) :
 PE X (.Call (.Attribute (.Name "Exception" np) "__init__" ap) [e] [] pos) (tExcInit C t):=by
 intro pins s σ H Q I h
 obtain ⟨m,fr⟩:=I.fr
 refine PySem.W.methodCall_KW (pl:=pl) (ld_blt I hg hm (u:=.type "Exception") rfl ?_) ht
 refine PySem.W.method_type (v:=.builtin "Exception.__init__") fr I.mod.kin (by kernel_rfl) (by decide +kernel) Z.ei (by rfl) ?_
 show wpAny _ _ (callWith pos (.builtin "Exception.__init__") [] (backTo pos (starEach [e] X.env)) []) _ _ _
 have Ik:=I.tok (s.toks + 1)
 refine PyProof.Rows.callWith_builtin1 (thn (ha pos pins _ σ H _ Ik h) fun us s1 ⟨vs,H1,I1,r,a,ev,ea,q⟩=>?_) he
 subst ev
 cases r with
 | cons r1 r2=>
  cases r2
  obtain rfl:=r1
  exact exc_init Z I1 ea fun s' I2=>⟨.non,H1,I2,rfl,q⟩
end
def sPlace (C:Addr) (ta tv:TE):TS:=fun D σ H=>tv σ H fun y H1=>ta σ H1 fun x H2=>∃ a,x = .ref a/\H2 a=some (.ext (fx0 C a))/\∀ d,H2 d=none->d ≠ a->D.nx σ (upd (upd H2 d (.xd [("place",y)])) a (.ext (fx1 C a d)))
section
variable {X:Cx} {pins:List (Addr × Obj)} {σ:St} {H:Hp} {s:Shared} {C x fi:Addr} {g:FuncData}
theorem Inv.placed {h':Heap} {t':Nat} {d:Addr} {y:V} {v:Value} {vs:Array Value} {t:Addr} (I:Inv X pins σ H s) (ea:H x=some (.ext (fx0 C x))) (hd:s.heap.objs.size<=d) (ry:RelV y v)
 (n:h'.Ns1 d (fun z=>if z = "place" then some v else none)) (hx:h'.get? x=some ⟨.ref C,some d,.fields vs,#[]⟩) (h0:vs[0]? = some (.ref t)) (h1:vs[1]? = some .none) (k:∀ b o,b ≠ x->s.heap.get? b=some o->h'.get? b=some o) :
 Inv X pins σ (upd (upd H d (.xd [("place",y)])) x (.ext (fx1 C x d))) { s with heap:=h',toks:=t' }:=by
 have hdn:H d=none:=I.hok.fresh hd
 have hdx:d ≠ x:=fun z=>by rw [z,ea] at hdn; cases hdn
 have oth:∀ b,b ≠ x->b ≠ d->upd (upd H d (.xd [("place",y)])) x (.ext (fx1 C x d)) b=H b:=fun b h1 h2=>by rw [upd_ne h1,upd_ne h2]
 have nd:∀ b o,H b=some o->b ≠ d:=fun b o q z=>by rw [z,hdn] at q; cases q
 have nb:∀ b o,s.heap.get? b=some o->b ≠ d:=fun b o q=>Nat.ne_of_lt (Nat.lt_of_lt_of_le (Heap.lt_size q) hd)
 refine I.un (h':=h') ⟨fun b o q n0 _ _=>k b o (fun z=>by rw [z,ea] at n0; cases n0) q,fun b o q n0 _ _=>⟨o.slots,k b o (fun z=>by rw [z,ea] at n0; cases n0) q⟩,
  fun b o q n0 _=>(oth b (fun z=>by rw [z,ea] at n0; cases n0) (nb b o q)).trans n0,fun b o q _=>?_,fun b xs q=>(oth b (fun z=>by rw [z,ea] at q; cases q) (nd b _ q)).trans q,
  fun b o u q=>(oth b (fun z=>by rw [z,ea] at q; cases q) (nd b _ q)).trans q,fun b ps q=>⟨#[],by rw [Array.append_empty]; exact (oth b (fun z=>by rw [z,ea] at q; cases q) (nd b _ q)).trans q⟩⟩ fun b o q=>?_
 . by_cases hb:b=x
   . exact ⟨_,hb ▸ hx⟩
   . exact ⟨o,k b o hb q⟩
 . by_cases hb:b=x
   . subst hb
     rw [upd_same] at q
     cases q
     exact fx1_ok ⟨vs,t,hx,h0,h1⟩
   . rw [upd_ne hb] at q
     by_cases hbd:b=d
     . subst hbd
       rw [upd_same] at q
       cases q
       refine ⟨_,n,fun f=>?_⟩
       show RelO (match f == ("place" : Str) with | true=>some y | false=>none) (if f = "place" then some v else none)
       by_cases hf:f = "place"
       . rw [if_pos hf,beq_iff_eq.mpr hf]
         exact ry
       . rw [if_neg hf,beq_false_of_ne hf]
         exact True.intro
     . rw [upd_ne hbd] at q
       refine (I.hok b o q).stay (fun c u hc r=>k c u (fun z=>?_) r) (fun c r=>(oth c (fun z=>by rw [z,ea] at r; cases r) (nd c _ r)).trans r) fun c xs r=>(oth c (fun z=>by rw [z,ea] at r; cases r) (nd c _ r)).trans r
       rcases hc with hc | hc
       . exact hb (hc.symm.trans z)
       . rw [z,ea] at hc
         cases hc
theorem ps_place {o value:Expr} {ta tv:TE} {pos pos':Pos} (Z:FaultAt X.K X.mg C fi g) (ha:PE X o ta) (hv:PE X value tv) (hs:swapsWith value (some (.Attribute o "place" pos')) pos.line X.env=pure false) :
 PS X (.Assign [.Attribute o "place" pos'] value pos) (sPlace C ta tv):=by
 intro pins s σ H D I h
 refine plainObj_wpAny_Assign_Attribute (thn (hv pins s σ H _ I h) fun u s1 ⟨y,H1,I1,ry,q⟩=>thn (ha pins s1 σ H1 _ I1 q) fun ov s2 ⟨x,H2,I2,rx,a,ex,ea,q2⟩=>?_) hs
 subst ex
 obtain rfl:ov=Value.ref a:=rx
 obtain ⟨⟨vs,t,he,h0,h1⟩,_⟩:=I2.hok a _ ea
 obtain ⟨cd,c1,c2,c3⟩:=Z.cls
 refine exc_set I2.kIn he Z.sa c1 c2 c3 Z.pl fun h' n hx k=>?_
 exact ⟨σ,_,I2.placed ea (Nat.le_refl _) ry n hx h0 h1 k,q2 _ (I2.hok.fresh (Nat.le_refl _)) (fun z=>by
  have:=Heap.lt_size he
  rw [<- z] at this
  exact Nat.lt_irrefl _ this)⟩
end
def spFault (C:Addr):Sp:=fun vs H Q _=>∃ a y,vs=[.ref a,y]/\H a=some (.ext (fx0 C a))/\∀ d,H d=none->d ≠ a->Q .non (upd (upd H d (.xd [("place",y)])) a (.ext (fx1 C a d)))
section
variable {P:Program} {w:World} {K:PySem.W.Frag} {mg:Str->Option Value} {base:Heap} {C fi:Addr} {g:FuncData}
theorem sc_Fault:FnScope ["self","place"] ["self","place"] (defScope Q.s_Fault_init):=⟨rfl,rfl,rfl,by decide +kernel,rfl,by decide +kernel,by decide +kernel⟩
theorem ok_Fault (Z:FaultAt K mg C fi g) (he:mg "Exception" = none):FnOk P w K mg base CX0 1 fi g ["self","place"] (spFault C):=by
 refine Z.F.ok sc_Fault (fun vs H Q E h=>?_) (fun cdv A outer s H vs Q E hr h=>?_)
 . obtain ⟨a,y,rfl,_⟩:=h
   rfl
 . obtain ⟨a,y,rfl,ha,q⟩:=h
   refine ⟨_,pss_cons (ps_expr (pe_excInit Z (by rfl) he (pa_cons (pv 0) pa_nil))) (pss_one (ps_place Z (pv 0) (pv 1) rfl)),?_⟩
   exact ⟨_,rfl,a,rfl,ha,_,rfl,_,rfl,a,rfl,ha,fun d h1 h2=>q d h1 h2⟩
end
def less (H:Hp) (a:Addr):Hp:=fun b=>if b=a then none else H b
theorem less_ne {H:Hp} {a b:Addr} (h:b ≠ a):less H a b=H b:=by unfold less; rw [if_neg h]
theorem less_self {H:Hp} {a:Addr}:less H a a=none:=by unfold less; rw [if_pos rfl]
theorem HOk.forget {P:Program} {w:World} {H:Hp} {h:Heap} {a:Addr} {φ:Heap->Prop} (hok:HOk P w H h) (e:H a=some (.ext φ)):HOk P w (less H a) h:=fun b o q=>by
 by_cases hb:b=a
 . rw [hb,less_self] at q
   cases q
 . rw [less_ne hb] at q
   exact (hok b o q).stay (fun _ _ _ r=>r) (fun c r=>(less_ne fun z=>by rw [z,e] at r; cases r).trans r) fun c xs r=>(less_ne fun z=>by rw [z,e] at r; cases r).trans r
theorem less_upd {H:Hp} {a d:Addr} {o u v:HO} (n:H a=none) (ne:d ≠ a):less (upd (upd (upd H a v) d o) a u) a=upd H d o:=by
 funext b
 by_cases hb:b=a
 . rw [hb,less_self,upd_ne (Ne.symm ne),n]
 . rw [less_ne hb,upd_ne hb]
   by_cases hd:b=d
   . rw [hd,upd_same,upd_same]
   . rw [upd_ne hd,upd_ne hd,upd_ne hb]
section
variable {P:Program} {w:World} {K:PySem.W.Frag} {mg:Str->Option Value} {base:Heap} {N:List Str} {qual:Str} {scope:Scope} {f:Addr} {cd:Value} {A:Around} {outer:List Env} {s0:Shared} {H0:Hp} {E:XK}
theorem thrownT {pins:List (Addr × Obj)} {σ:St} {H:Hp} {s:Shared} {ea:Addr} {cls:Value} {dx:Option Addr} {vs:Array Value} {sl:Array (Option Value)} {φ:Heap->Prop} (I:Inv (cxOf (CXE P w) P w K mg base N qual scope f cd A outer s0 H0 E) pins σ H s)
 (ht:H ea=some (.ext φ)) (n0:s0.heap.get? ea=none) (he:s.heap.get? ea=some ⟨cls,dx,.fields vs,sl⟩) (h1:vs[1]? = some .none) (h:E cls dx (less H ea)):(cxOf (CXE P w) P w K mg base N qual scope f cd A outer s0 H0 E).xe (.ref ea) s:=by
 generalize hX:cxOf (CXE P w) P w K mg base N qual scope f cd A outer s0 H0 E=X at *
 have hst:X.stack=X.env :: X.outer:=by rw [<- hX]; rfl
 have hex:X.ex=[]:=by rw [<- hX]; rfl
 have FF:=I.frames_here hst
 have stk:∀ b ∈ frs (X.env :: X.outer),H b=none:=fun b hb=>I.stkFree b (hst ▸ hb)
 have stk':∀ b ∈ frs (X.env :: X.outer),less H ea b=none:=fun b hb=>by
  by_cases z:b=ea
  . rw [z,less_self]
  . rw [less_ne z,stk b hb]
 have key:∀ {R:Value->Shared->Prop},wpAny (model X.prog X.w) X.A (leaving X.env (.ref ea)) (fun _ s2=>CXE X.prog X.w X.outer X.H_0 X.s_0 E (.ref ea) s2) R s:=by
  intro R
  have hfr:X.env.frame=some X.env.locals:=by rw [<- hX]; rfl
  have n0':X.s_0.heap.get? ea=none:=by rw [<- hX]; exact n0
  refine leave_first (base:=X.base) (hst ▸ I.ok.frames) FF hfr he h1 fun h2 T2 hT2 F2 Kp2=>?_
  have nT:s.heap.get? T2=none:=Heap.get?_none_of_le hT2
  have hok:=I.hok.forget ht
  have hT:less H ea T2=none:=hok.fresh hT2
  have hx:∀ b:Addr,b ∉ X.ex:=fun b=>by rw [hex]; simp
  have nL:∀ b o,X.s_0.heap.get? b=some o->b ≠ X.env.locals:=fun b o q=>Nat.ne_of_lt (Nat.lt_of_lt_of_le (Heap.lt_size q) I.ok.above)
  have th:∀ b o,X.s_0.heap.get? b=some o->b ≠ ea/\b ≠ T2:=fun b o q=>by
   refine ⟨(fun z=>by rw [z,n0'] at q; cases q),fun z=>?_⟩
   rw [z,I.new0 hex nT] at q
   cases q
  have st:∀ b o,X.s_0.heap.get? b=some o->b ∉ X.fs->b ∉ frs (X.env :: X.outer):=fun b o q hb z=>by
   have z':=I.stkSub b (hst ▸ z)
   rcases List.mem_cons.mp z' with z' | z'
   . exact nL b o q z'
   . exact hb z'
  have ne:∀ b o,(∀ φ,o ≠ HO.ext φ)->H b=some o->b ≠ ea:=fun b o ho q z=>by
   rw [z,ht] at q
   exact ho φ (Option.some.inj q).symm
  refine ⟨ea,T2,cls,dx,less H ea,rfl,I.os,I.bare,?_,hok.kept_but (Kp2 T2) stk' less_self hT,n0',I.new0 hex nT,less_self,hT,F2,h⟩
  refine ⟨fun b o q n hb _=>?_,fun b o q n hb _=>?_,fun b o q n _=>?_,fun b o q _=>?_,fun b xs q=>?_,fun b o v q=>?_,fun b ps q=>?_⟩
  . exact (Kp2 T2).keep b o (st b o q hb) (th b o q).1 (th b o q).2 (I.base.keep b o q n hb (hx b))
  . obtain ⟨sl',q1⟩:=I.base.slot b o q n hb (hx b)
    by_cases hm:b ∈ frs (X.env :: X.outer)
    . obtain ⟨sl2,q3⟩:=(Kp2 T2).slot b _ hm (th b o q).1 (th b o q).2 q1
      exact ⟨sl2,q3⟩
    . exact ⟨sl',(Kp2 T2).keep b _ hm (th b o q).1 (th b o q).2 q1⟩
  . rw [less_ne (th b o q).1]
    exact I.base.free b o q n (hx b)
  . obtain ⟨o',q'⟩:=I.base.there b o q (hx b)
    by_cases hm:b ∈ frs (X.env :: X.outer)
    . obtain ⟨sl2,q3⟩:=(Kp2 T2).slot b _ hm (th b o q).1 (th b o q).2 q'
      exact ⟨_,q3⟩
    . exact ⟨_,(Kp2 T2).keep b _ hm (th b o q).1 (th b o q).2 q'⟩
  . have r:=I.base.tups b xs q
    rw [less_ne (ne b (.tup xs) (fun _ z=>by cases z) r)]
    exact r
  . have r:=I.base.frzs b o v q
    rw [less_ne (ne b (.frz o v) (fun _ z=>by cases z) r)]
    exact r
  . obtain ⟨m1,e1⟩:=I.base.tbls b ps q
    exact ⟨m1,by rw [less_ne (ne b (.tbl (ps ++ m1)) (fun _ z=>by cases z) e1)]; exact e1⟩
 subst hX
 exact key
theorem raise_made {M:Model} {A:Around} {E:Value->Shared->Prop} {env:Env} {C Nn:Addr} {nm q:Str} {bs bm:List Value} {hdct:Bool} {sn:List Str} {sub:List Value} {ab:Bool} {col:Option Bool} {dd:Option Addr} {k0 k1 k2 k3 k5:Option Value} {newId:String}
 {s:Shared} {x:Sem Value} {Q:Flow->Shared->Prop} (hbase:bm.contains (.type "BaseException")=true) (hh:A.handled=none)
 (h:wpAny M A x (fun v s₁=>∃ e dx vs,v = .ref e/\s₁.heap.get? C=some (excClassObj nm q C Nn bs bm hdct sn sub ab col dd k0 k1 k2 k3 k5 newId) /\
  s₁.heap.get? e=some ⟨.ref C,dx,.fields vs,#[]⟩/\vs[1]? = some .none/\E (.ref e) s₁) E s) :
 wpAny M A (raiseStmt env (some x) none) Q E s:=by
 have cB:(Value.ref C :: bm).contains (.type "BaseException")=true:=by rw [List.contains_cons,hbase,Bool.or_true]
 unfold raiseStmt
 refine wpAny_bind (wpAny_mono h (fun v s₁ h₁=>?_) fun _ _ x=>x)
 obtain ⟨e,dx,vs,rfl,hC,he,h1,hE⟩:=h₁
 obtain ⟨hp,g,d,tk,os⟩:=s₁
 repeat (first | with_reducible refine wpAny_field he rfl h1 ?_ | with_reducible refine wpAny_loadPart_at he ?_ | with_reducible refine wpAny_loadPart_at hC ?_ | (with_reducible refine wpAny_isSubtype_exc hC ?_; rw [cB]) | wp_step)
 exact wpAny_raiseNew_none hh hE
end
theorem ns_some_of {K:PySem.W.Frag} {h:Heap} {N:Addr} {m:Str->Option Value} {n:Str} {v:Value} (X:K.In h) (G:h.Ns N m) (e:PySem.W.nsIn K N n=some (some v)):m n=some v:=by
 obtain ⟨o,es,ep,ho,hd,_,hf⟩:=G
 unfold PySem.W.nsIn at e
 split at e
 . rename_i q
   have z:=(X _ _ q).symm.trans ho
   cases z
   cases hd
   split at e
   . rename_i en he
     cases e
     have:=hf n
     rw [<- this]
     unfold nsFind findBy
     rw [<- Array.find?_toList,he]
     rfl
   . split at e <;> cases e
 . cases e
section
variable {X:Cx} {pins:List (Addr × Obj)} {σ:St} {H:Hp} {s:Shared}
theorem Inv.born {h':Heap} {t':Nat} {a:Addr} {φ:Heap->Prop} (I:Inv X pins σ H s) (k:∀ b o,s.heap.get? b=some o->h'.get? b=some o) (n:s.heap.get? a=none) (new:ObjOk X.prog X.w (upd H a (.ext φ)) h' a (.ext φ)) :
 Inv X pins σ (upd H a (.ext φ)) { s with heap:=h',toks:=t' }:=by
 have nH:H a=none:=I.hok.new n
 have ne:∀ b o,H b=some o->b ≠ a:=fun b o q z=>by rw [z,nH] at q; cases q
 have ne':∀ b o,s.heap.get? b=some o->b ≠ a:=fun b o q z=>by rw [z,n] at q; cases q
 refine I.un (h':=h') ⟨fun b o q _ _ _=>k b o q,fun b o q _ _ _=>⟨o.slots,k b o q⟩,fun b o q n0 _=>(upd_ne (ne' b o q)).trans n0,fun b o q _=>⟨o,k b o q⟩,fun b xs q=>(upd_ne (ne b _ q)).trans q,
  fun b o u q=>(upd_ne (ne b _ q)).trans q,fun b ps q=>⟨#[],by rw [Array.append_empty]; exact (upd_ne (ne b _ q)).trans q⟩⟩ fun b o q=>?_
 by_cases hb:b=a
 . subst hb
   rw [upd_same] at q
   cases q
   exact new
 . rw [upd_ne hb] at q
   exact (I.hok b o q).stay (fun c u _ r=>k c u r) (fun c r=>(upd_ne (ne c _ r)).trans r) fun c xs r=>(upd_ne (ne c _ r)).trans r
end
section
variable {P:Program} {w:World} {K:PySem.W.Frag} {mg:Str->Option Value} {base:Heap} {N:List Str} {qual:Str} {scope:Scope} {f:Addr} {cd:Value} {A:Around} {outer:List Env} {s0:Shared} {H0:Hp} {E:XK} {C fi:Addr} {g:FuncData} {k:Nat}
theorem ps_raiseF {e:Expr} {t:TA} {np cpos pos:Pos} (Z:FaultAt K mg C fi g) (Fi:FnOk P w K mg base CX0 k fi g ["self","place"] (spFault C))
 (hr:Room (k + 1) (cxOf (CXE P w) P w K mg base N qual scope f cd A outer s0 H0 E).A) (ha:PA (cxOf (CXE P w) P w K mg base N qual scope f cd A outer s0 H0 E) [e] t)
 (hg:Gl (cxOf (CXE P w) P w K mg base N qual scope f cd A outer s0 H0 E) "Fault" := by rfl)
 (he:starEach [e] (cxOf (CXE P w) P w K mg base N qual scope f cd A outer s0 H0 E).env=[(false,eval e (cxOf (CXE P w) P w K mg base N qual scope f cd A outer s0 H0 E).env)]:=by rfl) :
 PS (cxOf (CXE P w) P w K mg base N qual scope f cd A outer s0 H0 E) (.Raise (some (.Call (.Name "Fault" np) [e] [] cpos)) none pos)
  (fun _ σ H=>t σ H fun vs H1=>∃ y,vs=[y]/\∀ d,H1 d=none->E (.ref C) (some d) (upd H1 d (.xd [("place",y)]))):=by
 intro pins s σ H D I h
 obtain ⟨Nn,nm,qn,bs,sn,sub,ab,col,dd,k0,k1,k2,k3,k5,hC,hok,hin⟩:=Z.obj
 obtain ⟨oI,hfI,hfc⟩:=Z.fo
 rw [arm_exec_Raise]
 refine wpAny_bind (wpAny_standAt (raise_made (C:=C) (nm:=nm) (q:=qn) (Nn:=Nn) (bs:=bs) (bm:=excMro) (hdct:=true) (sn:=sn) (sub:=sub) (ab:=ab) (col:=col) (dd:=dd) (k0:=k0) (k1:=k1) (k2:=k2) (k3:=k3) (k5:=k5) (newId:="Exception.__new__") (by rfl) (I.ok.hd rfl) ?_))
 refine wpAny_bind (wpAny_mono (?_:wpAny (model P w) _ (eval (.Call (.Name "Fault" np) [e] [] cpos) _) _ _ _) (fun v s3 h3=>wpAny_bind (wpAny_standAt (wpAny_pure h3))) fun _ _ x=>x)
 refine wpAny_Call_Name_kw (ld_glob I hg Z.m ?_ (by decide))
 refine PySem.W.callWith_K (h₀:=base) I.ok.mod.kin Z.kp (thn (ha cpos pins s σ H _ I h) fun us s1 ⟨vs,H1,I1,r,y,ev,q⟩=>⟨I1.kIn,?_⟩) he (by rfl)
 subst ev
 cases r with
 | @cons _ u _ _ ry r2=>
 cases r2
 obtain ⟨hp,gs,dr,tk,os⟩:=s1
 have hC1:=I1.kIn _ _ hC
 have hN1:hp.Ns Nn _:=.of_isNs (PySem.W.isNs_of_in I1.kIn hok)
 refine wpAny_call_exc_init PySem.F.excBase_Exception (rest:=[u]) hC1 hN1 (ns_some_of I1.kIn hN1 hin) (I1.kIn _ _ hfI) hfc (fun h' ea hm=>?_)
 obtain ⟨t0,het,_,_⟩:=hm.there
 have I2:=I1.born (t':=tk) (φ:=fx0 C ea) hm.keeps hm.new (fx0_ok ⟨_,t0,het,rfl,rfl⟩)
 have nE:H1 ea=none:=I1.hok.new hm.new
 have r2:Vals [V.ref ea,y] [Value.ref ea,u]:=.cons rfl (.cons ry .nil)
 refine wpAny_call (codeAny_mono (Fi.run _ _ _ _ ⟨[Value.ref ea,u],[]⟩ [Value.ref ea,u] [V.ref ea,y] (fun v H3=>v = .non/\∃ d,H1 d=none/\d ≠ ea/\H3=upd (upd (upd H1 ea (.ext (fx0 C ea))) d (.xd [("place",y)])) ea (.ext (fx1 C ea d))) E0
  (hr.make C [u] []) (I2.env0.make C [u] []) (Z.b _ [Value.ref ea,u] I2.kIn rfl) r2 ⟨ea,y,rfl,upd_same,fun d h1 h2=>⟨rfl,d,(upd_ne h2).symm.trans h1,h2,rfl⟩⟩) fun r s' hq'=>?_)
 cases r with
 | error e=>exact False.elim hq'
 | ok fl=>
  cases fl with
  | ret u=>
   obtain ⟨v,H3,I3,rv,rfl,d,hd,hne,rfl⟩:=I2.after hq'
   obtain ⟨⟨vs,t,he3,v0,v1⟩,_⟩:=I3.hok ea _ upd_same
   refine ⟨rv,ea,some d,vs,rfl,I3.kIn _ _ hC,he3,v1,?_⟩
   exact thrownT I3 upd_same (I1.new0 rfl hm.new) he3 v1 (by rw [less_upd nE hne]; exact q d hd)
  | next=>exact False.elim hq'
  | brk=>exact False.elim hq'
  | cont=>exact False.elim hq'
end
end L2
end
section
namespace Q
open PySem PySem.Spec PyProof.Rows L2 Omega OmMath
theorem pe_topI {X:Cx} {x:Str} {i:Int} {pos:Pos} (h:IntAt X.mg x i) (hg:Gl X x:=by rfl) (hd:(x == ("__debug__" : Str))=false:=by decide):PE X (.Name x pos) (tC (.int i)):=by
 obtain ⟨t,e⟩:=h
 exact pe_glob hg e (show ∃ t',Value.int i t=Value.int i t' from ⟨_,rfl⟩) hd
def rdO (C dx t:Addr) (n p:Nat):HO:=.ins C dx [("text",.ref t),("qubits",.int (n:Int)),("at",.int (p:Int))]
def byteAt (l:List Nat) (p:Nat):Int:=match l[p]? with
 | some c=>(c:Int)
 | none=>-1
structure RdAt (K:PySem.W.Frag) (C:Addr) (H:Hp) (rd dx t:Addr) (n:Nat) (l:List Nat) (p:Nat):Prop where
 o:H rd=some (rdO C dx t n p)
 txt:SqL K H t (natV l)
theorem _root_.L2.SqL.butIns {K:PySem.W.Frag} {H H':Hp} {t rd C dx:Addr} {xs:List V} {fs:List (Str × V)} (h:SqL K H t xs) (e:But rd H H') (o:H rd=some (.ins C dx fs)):SqL K H' t xs:=by
 rcases h with (h | ⟨u,h⟩) | h
 . exact .inl (.inl (e _ _ (ne_of h o (by intro z; cases z)) h))
 . exact .inl (.inr ⟨u,e _ _ (ne_of h o (by intro z; cases z)) h⟩)
 . exact .inr h
theorem RdAt.at_ {K:PySem.W.Frag} {C:Addr} {H:Hp} {rd dx t:Addr} {n:Nat} {l:List Nat} {p:Nat} (h:RdAt K C H rd dx t n l p) (p':Nat):RdAt K C (L2.upd H rd (rdO C dx t n p')) rd dx t n l p':=
 ⟨upd_same,h.txt.butIns But.upd h.o⟩
theorem RdAt.same {K:PySem.W.Frag} {C:Addr} {H H':Hp} {rd dx t:Addr} {n:Nat} {l:List Nat} {p:Nat} (h:RdAt K C H rd dx t n l p) (e:Same H H'):RdAt K C H' rd dx t n l p:=⟨e _ _ h.o,e.seq h.txt⟩
section
variable {P:Program} {w:World} {K:PySem.W.Frag} {mg:Str->Option Value} {base:Heap}
def spReader (C:Addr):Sp:=fun vs H Q _=>∃ (x dx t:Addr) (n:Nat),vs=[.ref x,.ref t,.int (n:Int)]/\H x=some (.ins C dx [])/\∀ H',H' x=some (rdO C dx t n 0)->But x H H'->Q .non H'
theorem sc_Reader:FnScope ["self","text","qubits"] ["self","text","qubits"] (defScope s_Reader_init):=⟨rfl,rfl,rfl,by decide +kernel,rfl,by decide +kernel,by decide +kernel⟩
theorem ok_Reader (T:Tx K mg):FnOk P w K mg base CX0 1 T.f_Reader_init T.g_Reader_init ["self","text","qubits"] (spReader T.C_Reader):=by
 refine T.d_Reader.F.ok sc_Reader (fun vs H Q E h=>?_) (fun cdv A outer s H vs Q E hr h=>?_)
 . obtain ⟨x,dx,t,n,rfl,_⟩:=h
   rfl
 . obtain ⟨x,dx,t,n,rfl,hp,q⟩:=h
   refine ⟨_,pss_cons (ps_fld (pv 0) (pv 1) rfl) (pss_cons (ps_fld (pv 0) (pv 2) rfl) (pss_one (ps_fld (pv 0) pe_int rfl))),?_⟩
   refine ⟨_,rfl,_,rfl,x,_,dx,[],rfl,hp,T.d_Reader.c,T.n_Reader_text,(by show 0 < 1000; decide),?_⟩
   refine ⟨_,rfl,_,rfl,x,_,dx,_,rfl,upd_same,T.d_Reader.c,T.n_Reader_qubits,(by show 1 < 1000; decide),?_⟩
   refine ⟨_,rfl,x,_,dx,_,rfl,upd_same,T.d_Reader.c,T.n_Reader_at,Nat.lt_of_le_of_lt (length_putF _ _ _) (by show 2 < 1000; decide),?_⟩
   exact q _ upd_same ((But.upd.trans But.upd).trans But.upd)
def spByte (K:PySem.W.Frag) (C:Addr):Sp:=fun vs H Q _=>∃ (rd dx t:Addr) (n:Nat) (l:List Nat) (p:Nat),vs=[.ref rd]/\RdAt K C H rd dx t n l p/\Q (.int (byteAt l p)) H
theorem sc_byte:FnScope ["self"] ["self"] (defScope s_Reader_byte_here):=⟨rfl,rfl,rfl,by decide +kernel,rfl,by decide +kernel,by decide +kernel⟩
theorem ok_byte (T:Tx K mg):FnOk P w K mg base CX0 1 T.f_Reader_byte_here T.g_Reader_byte_here ["self"] (spByte K T.C_Reader):=by
 refine T.d_Reader_byte_here.F.ok sc_byte (fun vs H Q E h=>?_) (fun cdv A outer s H vs Q E hr h=>?_)
 . obtain ⟨rd,dx,t,n,l,p,rfl,_⟩:=h
   rfl
 . obtain ⟨rd,dx,t,n,l,p,rfl,hr,q⟩:=h
   refine ⟨_,pss_one (ps_ret (pe_ifExp (pt_cmpR op_lt (pe_fld (pv 0) rfl) (pe_callB call_len_seq (by rfl) T.b_len boot_len' (pa_cons (pe_fld (pv 0) rfl) pa_nil)) (nomark _))
    (pe_ix ix_list (pe_fld (pv 0) rfl) (pe_fld (pv 0) rfl) (fun _ _=>rfl)) (pe_topI T.i_END))),?_⟩
   refine ⟨_,rfl,rd,_,dx,_,_,rfl,hr.o,T.d_Reader.c,T.n_Reader_at,rfl,?_⟩
   refine ⟨_,rfl,rd,_,dx,_,_,rfl,hr.o,T.d_Reader.c,T.n_Reader_text,rfl,?_⟩
   refine ⟨t,natV l,rfl,.inl (hr.txt),?_⟩
   refine ⟨_,_,rfl,rfl,_,rfl,?_⟩
   refine ite2 (fun hc=>?_) (fun hc=>?_)
   . have hlt:p < l.length:=by
      have:=of_decide_eq_true hc
      rw [natV_length] at this
      exact Int.ofNat_lt.mp this
     have hg:(natV l)[p]? = some (.int (l[p]:Int)):=by
      unfold natV
      rw [List.getElem?_map,List.getElem?_eq_getElem hlt]
      rfl
     refine ⟨_,rfl,rd,_,dx,_,_,rfl,hr.o,T.d_Reader.c,T.n_Reader_text,rfl,?_⟩
     refine ⟨_,rfl,rd,_,dx,_,_,rfl,hr.o,T.d_Reader.c,T.n_Reader_at,rfl,?_⟩
     refine ⟨t,natV l,(p:Int),_,rfl,rfl,hr.txt,atI_nat hg,?_⟩
     have e:byteAt l p=(l[p]:Int):=by
      unfold byteAt
      rw [List.getElem?_eq_getElem hlt]
     rw [e] at q
     exact q
   . have hlt:¬ p < l.length:=fun z=>hc (decide_eq_true (by rw [natV_length]; exact Int.ofNat_lt.mpr z))
     have e:byteAt l p = -1:=by
      unfold byteAt
      rw [List.getElem?_eq_none (Nat.le_of_not_lt hlt)]
     rw [e] at q
     exact q
def skipP (l:List Nat) (p:Nat):Nat:=p + ((l.drop p).takeWhile isBlank).length
theorem skipP_blank {l:List Nat} {p c:Nat} (h:l[p]? = some c) (hb:isBlank c=true):skipP l (p + 1)=skipP l p:=by
 unfold skipP
 have e:l.drop p=c :: l.drop (p + 1):=by
  obtain ⟨hp,rfl⟩:=List.getElem?_eq_some_iff.mp h
  exact List.drop_eq_getElem_cons hp
 rw [e,List.takeWhile_cons,hb]
 show p + 1 + _=p + (_ + 1)
 omega
theorem skipP_stop {l:List Nat} {p:Nat} (h:∀ c,l[p]? = some c->isBlank c=false):skipP l p=p:=by
 unfold skipP
 cases e:l.drop p with
 | nil=>rfl
 | cons c r=>
  have hc:l[p]? = some c:=by
   have:(l.drop p)[0]? = some c:=by rw [e]; rfl
   rw [List.getElem?_drop] at this
   exact this
  rw [List.takeWhile_cons,h c hc]
  rfl
theorem skipP_le {l:List Nat} {p:Nat} (h:p<=l.length):skipP l p<=l.length:=by
 unfold skipP
 have:=(List.takeWhile_sublist isBlank (l:=l.drop p)).length_le
 rw [List.length_drop] at this
 omega
theorem byte_some {l:List Nat} {p:Nat} {c:Nat} (h:byteAt l p=(c:Int)):l[p]? = some c:=by
 unfold byteAt at h
 split at h
 . rename_i d e
   rw [e]
   exact congrArg some (Int.ofNat.inj h)
 . omega
theorem byte_of {l:List Nat} {p:Nat} {c:Nat} (h:l[p]? = some c):byteAt l p=(c:Int):=by
 unfold byteAt
 rw [h]
def spPeek (K:PySem.W.Frag) (C:Addr):Sp:=fun vs H Q _=>∃ (rd dx t:Addr) (n:Nat) (l:List Nat) (p:Nat),vs=[.ref rd]/\RdAt K C H rd dx t n l p/\p<=l.length/\Q (.int (byteAt l (skipP l p))) (L2.upd H rd (rdO C dx t n (skipP l p)))
theorem sc_peek:FnScope ["self"] ["self"] (defScope s_Reader_peek):=⟨rfl,rfl,rfl,by decide +kernel,rfl,by decide +kernel,by decide +kernel⟩
theorem ok_peek (T:Tx K mg):FnOk P w K mg base CX0 2 T.f_Reader_peek T.g_Reader_peek ["self"] (spPeek K T.C_Reader):=by
 have G1:FnOk P w K mg base CX0 1 T.f_Reader_byte_here T.g_Reader_byte_here ["self"] (spByte K T.C_Reader):=ok_byte T
 refine T.d_Reader_peek.F.ok sc_peek (fun vs H Q E h=>?_) (fun cdv A outer s H vs Q E hr h=>?_)
 . obtain ⟨rd,dx,t,n,l,p,rfl,_⟩:=h
   rfl
 . obtain ⟨rd,dx,t,n,l,p,rfl,hR,hp,q⟩:=h
   refine ⟨_,pss_cons (ps_while PassesOwn.never (PW.pt (pw_or (pt_cmpR op_eq (pe_meth0 (pv 0) T.d_Reader.c T.d_Reader_byte_here.me G1 hr T.d_Reader_byte_here.b .nil pass0) (pe_topI T.i_SPACE) (nomark _))
    (pw_or1 (pt_cmpR op_eq (pe_meth0 (pv 0) T.d_Reader.c T.d_Reader_byte_here.me G1 hr T.d_Reader_byte_here.b .nil pass0) (pe_topI T.i_LINE_END) (nomark _)))))
    (pss_one (ps_fldaug (pv 0) pe_int in_add)))
    (pss_one (ps_ret (pe_meth0 (pv 0) T.d_Reader.c T.d_Reader_byte_here.me G1 hr T.d_Reader_byte_here.b .nil pass0))),?_⟩
   refine ⟨fun m σ H'=>∃ p',m=l.length - p'/\σ=[some (.ref rd)]/\H'=L2.upd H rd (rdO T.C_Reader dx t n p')/\skipP l p'=skipP l p/\p'<=l.length,⟨_,p,rfl,rfl,(upd_id hR.o).symm,rfl,hp⟩,?_⟩
   rintro m σ H' ⟨p',rfl,rfl,rfl,hs,hle⟩
   have R':=hR.at_ p'
   refine ⟨_,rfl,rd,dx,_,rfl,R'.o,rfl,rd,dx,t,n,l,p',rfl,R',?_⟩
   refine ⟨rfl,_,rfl,?_⟩
   have stp:∀ c:Nat,byteAt l p'=(c:Int)->isBlank c=true->(∃ N:L2.St->Hp->Prop,(∀ σ' H',N σ' H'->∃ m',m' < l.length - p'/\∃ p2,m'=l.length - p2/\σ'=[some (.ref rd)]/\H'=L2.upd H rd (rdO T.C_Reader dx t n p2)/\skipP l p2=skipP l p/\p2<=l.length) /\
    (sFldAug K (tVar 0) (tC (.int 1)) rAdd "at") { nx:=N,ct:=N,bk:=fun _ _=>False,rt:=Q } [some (.ref rd)] (L2.upd H rd (rdO T.C_Reader dx t n p'))):=by
    intro c hc hb
    have hg:=byte_some hc
    have hlt:p' < l.length:=(List.getElem?_eq_some_iff.mp hg).1
    refine ⟨fun σ' H'=>σ'=[some (.ref rd)]/\H'=L2.upd H rd (rdO T.C_Reader dx t n (p' + 1)),?_,?_⟩
    . rintro σ' H' ⟨rfl,rfl⟩
      exact ⟨l.length - (p' + 1),by omega,p' + 1,rfl,rfl,rfl,(skipP_blank hg hb).trans hs,hlt⟩
    . refine ⟨_,rfl,rd,_,dx,_,_,rfl,R'.o,T.d_Reader.c,T.n_Reader_at,rfl,_,_,rfl,rfl,_,_,R'.o,by show 3 < 1000; decide,rfl,?_⟩
      exact upd_upd
   refine ite2 (fun hc=>?_) (fun hc=>?_)
   . exact iteT (stp 32 (V.int.inj (of_decide_eq_true hc)) rfl)
   . refine ⟨_,rfl,rd,dx,_,rfl,R'.o,rfl,rd,dx,t,n,l,p',rfl,R',?_⟩
     refine ⟨rfl,_,rfl,?_⟩
     refine ite2 (fun hd=>?_) (fun hd=>?_)
     . exact stp 10 (V.int.inj (of_decide_eq_true hd)) rfl
     . refine ⟨_,rfl,rd,dx,_,rfl,R'.o,rfl,rd,dx,t,n,l,p',rfl,R',?_⟩
       have st:skipP l p'=p':=skipP_stop fun c e=>by
        cases hb:isBlank c with
        | false=>rfl
        | true=>
         rcases (Bool.or_eq_true_iff.mp hb) with z | z
         . exact absurd (decide_eq_true (congrArg V.int ((byte_of e).trans (congrArg Int.ofNat (beq_iff_eq.mp z))))) hc
         . exact absurd (decide_eq_true (congrArg V.int ((byte_of e).trans (congrArg Int.ofNat (beq_iff_eq.mp z))))) hd
       rw [<- hs,st] at q
       exact q
def spAccept (K:PySem.W.Frag) (C:Addr):Sp:=fun vs H Q _=>∃ (rd dx t:Addr) (n:Nat) (l:List Nat) (p c:Nat),vs=[.ref rd,.int (c:Int)]/\RdAt K C H rd dx t n l p/\p<=l.length /\
 (l[skipP l p]? = some c->Q (.bl true) (L2.upd H rd (rdO C dx t n (skipP l p + 1))))/\(l[skipP l p]? ≠ some c->Q (.bl false) (L2.upd H rd (rdO C dx t n (skipP l p))))
theorem sc_accept:FnScope ["self","byte"] ["self","byte"] (defScope s_Reader_accept):=⟨rfl,rfl,rfl,by decide +kernel,rfl,by decide +kernel,by decide +kernel⟩
theorem ok_accept (T:Tx K mg):FnOk P w K mg base CX0 3 T.f_Reader_accept T.g_Reader_accept ["self","byte"] (spAccept K T.C_Reader):=by
 have G1:FnOk P w K mg base CX0 2 T.f_Reader_peek T.g_Reader_peek ["self"] (spPeek K T.C_Reader):=ok_peek T
 refine T.d_Reader_accept.F.ok sc_accept (fun vs H Q E h=>?_) (fun cdv A outer s H vs Q E hr h=>?_)
 . obtain ⟨rd,dx,t,n,l,p,c,rfl,_⟩:=h
   rfl
 . obtain ⟨rd,dx,t,n,l,p,c,rfl,hR,hp,q1,q2⟩:=h
   refine ⟨_,pss_cons (ps_if (pt_cmpR op_ne (pe_meth0 (pv 0) T.d_Reader.c T.d_Reader_peek.me G1 hr T.d_Reader_peek.b .nil pass0) (pv 1) (nomark _)) (pss_one (ps_ret pe_bl)) pss_nil)
    (pss_cons (ps_fldaug (pv 0) pe_int in_add) (pss_one (ps_ret pe_bl))),?_⟩
   have R':=hR.at_ (skipP l p)
   refine ⟨_,rfl,rd,dx,_,rfl,hR.o,rfl,rd,dx,t,n,l,p,rfl,hR,hp,_,rfl,rfl,_,rfl,?_⟩
   refine ite2 (fun hc=>?_) (fun hc=>?_)
   . refine q2 fun z=>?_
     rw [byte_of z,decide_eq_true rfl] at hc
     cases hc
   . have e:l[skipP l p]? = some c:=by
      by_cases z:V.int (byteAt l (skipP l p))=V.int (c:Int)
      . exact byte_some (V.int.inj z)
      . rw [decide_eq_false z] at hc
        exact absurd rfl hc
     refine ⟨_,rfl,rd,_,dx,_,_,rfl,R'.o,T.d_Reader.c,T.n_Reader_at,rfl,_,_,rfl,rfl,_,_,R'.o,by show 3 < 1000; decide,?_⟩
     have:=q1 e
     rw [<- upd_upd (o:=rdO T.C_Reader dx t n (skipP l p))] at this
     exact this
def spDigit (K:PySem.W.Frag) (C:Addr):Sp:=fun vs H Q _=>∃ (rd dx t:Addr) (n:Nat) (l:List Nat) (p:Nat),vs=[.ref rd]/\RdAt K C H rd dx t n l p/\Q (.bl ((l[p]?).any isDigit)) H
theorem sc_digit:FnScope ["self"] ["self"] (defScope s_Reader_digit_here):=⟨rfl,rfl,rfl,by decide +kernel,rfl,by decide +kernel,by decide +kernel⟩
theorem ok_digit (T:Tx K mg):FnOk P w K mg base CX0 2 T.f_Reader_digit_here T.g_Reader_digit_here ["self"] (spDigit K T.C_Reader):=by
 have G1:FnOk P w K mg base CX0 1 T.f_Reader_byte_here T.g_Reader_byte_here ["self"] (spByte K T.C_Reader):=ok_byte T
 refine T.d_Reader_digit_here.F.ok sc_digit (fun vs H Q E h=>?_) (fun cdv A outer s H vs Q E hr h=>?_)
 . obtain ⟨rd,dx,t,n,l,p,rfl,_⟩:=h
   rfl
 . obtain ⟨rd,dx,t,n,l,p,rfl,hR,q⟩:=h
   refine ⟨_,pss_one (ps_ret (pe_chain op_le op_le (pe_topI T.i_DIGIT_0) (pe_meth0 (pv 0) T.d_Reader.c T.d_Reader_byte_here.me G1 hr T.d_Reader_byte_here.b .nil pass0) (pe_topI T.i_DIGIT_9))),?_⟩
   refine ⟨_,rfl,rd,dx,_,rfl,hR.o,rfl,rd,dx,t,n,l,p,rfl,hR,_,_,rfl,rfl,_,rfl,?_⟩
   cases e:l[p]? with
   | none=>
    have eb:byteAt l p = -1:=by
     unfold byteAt
     rw [e]
    rw [e] at q
    rw [eb]
    exact q
   | some c=>
    rw [e] at q
    rw [byte_of e]
    refine ite2 (fun hc=>?_) (fun hc=>?_)
    . have h1:48<=c:=Int.ofNat_le.mp (of_decide_eq_true hc)
      refine ⟨_,_,rfl,rfl,?_⟩
      have:(decide ((c:Int)<=57))=isDigit c:=by
       unfold isDigit
       rw [decide_eq_true h1,Bool.true_and,decide_eq_decide]
       omega
      show Q (.bl (decide ((c:Int)<=57))) H
      rw [this]
      exact q
    . have h1:¬ 48<=c:=fun z=>hc (decide_eq_true (Int.ofNat_le.mpr z))
      have:isDigit c=false:=by
       unfold isDigit
       rw [decide_eq_false h1,Bool.false_and]
      have q':Q (.bl (isDigit c)) H:=q
      rw [this] at q'
      exact q'
end
def restAt (l:List Nat) (p:Nat):Rest:=⟨l.drop p,p⟩
theorem dropWhile_drop {α:Type} (q:α->Bool):∀ m:List α,m.dropWhile q=m.drop (m.takeWhile q).length
 | []=>rfl
 | x :: m=>by
  cases h:q x with
  | true=>rw [List.dropWhile_cons,List.takeWhile_cons,h]; simp [dropWhile_drop q m]
  | false=>simp [h]
theorem rest_skip (l:List Nat) (p:Nat):(restAt l p).skip=restAt l (skipP l p):=by
 unfold Rest.skip restAt skipP
 dsimp only
 rw [dropWhile_drop,List.drop_drop]
theorem rest_on (l:List Nat) (p k:Nat):(restAt l p).on k=restAt l (p + k):=by
 unfold Rest.on restAt
 dsimp only
 rw [List.drop_drop]
theorem rest_head (l:List Nat) (p:Nat):(restAt l p).text.head? = l[p]?:=by
 unfold restAt
 dsimp only
 rw [List.head?_drop]
theorem tw_go {α:Type} (q:α->Bool):∀ (m:List α) (j:Nat),j<=(m.takeWhile q).length->(m[j]?).any q=true->j < (m.takeWhile q).length/\(m.takeWhile q)[j]? = m[j]?
 | [],j,_,h=>by cases h
 | x :: m,0,_,h=>by
  have h:q x=true:=h
  rw [List.takeWhile_cons,h]
  exact ⟨Nat.succ_pos _,rfl⟩
 | x :: m,j + 1,hj,h=>by
  cases e:q x with
  | false=>rw [List.takeWhile_cons,e] at hj; cases hj
  | true=>
   rw [List.takeWhile_cons,e] at hj ⊢
   obtain ⟨a,b⟩:=tw_go q m j (Nat.le_of_succ_le_succ hj) h
   exact ⟨Nat.succ_lt_succ a,b⟩
theorem tw_stop {α:Type} (q:α->Bool):∀ (m:List α) (j:Nat),j<=(m.takeWhile q).length->(m[j]?).any q=false->j=(m.takeWhile q).length
 | [],j,hj,_=>Nat.le_zero.mp hj
 | x :: m,0,_,h=>by
  have h:q x=false:=h
  rw [List.takeWhile_cons,h]
  rfl
 | x :: m,j + 1,hj,h=>by
  cases e:q x with
  | false=>rw [List.takeWhile_cons,e] at hj; cases hj
  | true=>
   rw [List.takeWhile_cons,e] at hj ⊢
   exact congrArg (· + 1) (tw_stop q m j (Nat.le_of_succ_le_succ hj) h)
theorem number_step {d:List Nat} {j c:Nat} (h:d[j]? = some c):numberOf (d.take (j + 1))=10 * numberOf (d.take j) + (c - 48):=by
 rw [List.take_add_one,h]
 unfold numberOf
 rw [List.foldl_append]
 rfl
theorem inV_nat (v:Nat):∀ l:List Nat,inV (.int (v:Int)) (natV l)=l.contains v
 | []=>rfl
 | x :: l=>by
  have ih:=inV_nat v l
  show (eqV (.int (x:Int)) (.int (v:Int)) || inV (.int (v:Int)) (natV l))=_
  rw [ih,List.contains_cons]
  have e:eqV (.int (x:Int)) (.int (v:Int))=(v == x):=by
   show ((x:Int) == (v:Int))=(v == x)
   rw [Bool.eq_iff_iff,beq_iff_eq,beq_iff_eq]
   omega
  rw [e]
theorem flat_nat (l:List Nat):(natV l).all flatV=true:=by
 rw [List.all_eq_true]
 intro x hx
 obtain ⟨i,_,rfl⟩:=List.mem_map.mp hx
 rfl
def FaultE (CF:Addr) (H:Hp) (rd:Addr) (E:XK) (b:Nat):Prop:=∀ (d:Addr) (H':Hp),But rd H H'->H' d=some (.xd [("place",.int (b:Int))])->E (.ref CF) (some d) H'
theorem FaultE.to {CF:Addr} {H:Hp} {rd:Addr} {E:XK} {b:Nat} {o:HO} (h:FaultE CF H rd E b):∀ d,L2.upd H rd o d=none->E (.ref CF) (some d) (L2.upd (L2.upd H rd o) d (.xd [("place",.int (b:Int))])):=fun d hd=>
 h d _ (fun c u n q=>by
  by_cases hc:c=d
  . subst hc
    rw [upd_ne n,q] at hd
    cases hd
  . rw [upd_ne hc,upd_ne n]
    exact q) upd_same
section
variable {P:Program} {w:World} {K:PySem.W.Frag} {mg:Str->Option Value} {base:Heap}
def mayN (most:Int) (used:List Nat) (v:Nat):Bool:=decide ((v:Int)<=most) && !used.contains v
def spNumber (K:PySem.W.Frag) (C CF:Addr):Sp:=fun vs H Q E=>∃ (rd dx t u:Addr) (n:Nat) (l:List Nat) (p:Nat) (most:Int) (used:List Nat),vs=[.ref rd,.int most,.ref u]/\RdAt K C H rd dx t n l p/\p<=l.length/\H u=some (.lst (natV used)) /\
 (∀ v p',number (mayN most used) (restAt l p) = .ok v (restAt l p')->p < p'->p'<=l.length->Q (.int (v:Int)) (L2.upd H rd (rdO C dx t n p'))) /\
 (∀ b,number (mayN most used) (restAt l p) = .bad b->FaultE CF H rd E b)
theorem sc_number:FnScope ["self","most","used","start","value","digits"] ["self","most","used"] (defScope s_Reader_number):=⟨rfl,rfl,rfl,by decide +kernel,rfl,by decide +kernel,by decide +kernel⟩
theorem ok_number (T:Tx K mg) {CF fi:Addr} {g:FuncData} (Z:FaultAt K mg CF fi g) (he:mg "Exception" = none):FnOk P w K mg base (CXE P w) 3 T.f_Reader_number T.g_Reader_number ["self","most","used"] (spNumber K T.C_Reader CF):=by
 have G0:FnOk P w K mg base CX0 1 fi g ["self","place"] (spFault CF):=ok_Fault Z he
 have G1:FnOk P w K mg base CX0 1 T.f_Reader_byte_here T.g_Reader_byte_here ["self"] (spByte K T.C_Reader):=ok_byte T
 have G2:FnOk P w K mg base CX0 2 T.f_Reader_peek T.g_Reader_peek ["self"] (spPeek K T.C_Reader):=ok_peek T
 have G3:FnOk P w K mg base CX0 2 T.f_Reader_digit_here T.g_Reader_digit_here ["self"] (spDigit K T.C_Reader):=ok_digit T
 refine T.d_Reader_number.F.okE sc_number (fun vs H Q E h=>?_) (fun cdv A outer s H vs Q E hr h=>?_)
 . obtain ⟨rd,dx,t,u,n,l,p,most,used,rfl,_⟩:=h
   rfl
 . obtain ⟨rd,dx,t,u,n,l,p,most,used,rfl,hR,hp,hu,q1,q2⟩:=h
   have hr1:Room 1 _:=hr.mono (by decide)
   refine ⟨_,pss_cons (ps_expr (pe_meth0 (pv 0) T.d_Reader.c T.d_Reader_peek.me G2 hr T.d_Reader_peek.b .nil pass0))
    (pss_cons (ps_set (i:=3) sc_number.nd rfl (Or.inl rfl) (pe_fld (pv 0) rfl))
    (pss_cons (ps_set (i:=4) sc_number.nd rfl (Or.inl rfl) pe_int)
    (pss_cons (ps_while ownE (pt_truth (pe_meth0 (pv 0) T.d_Reader.c T.d_Reader_digit_here.me G3 hr T.d_Reader_digit_here.b .nil pass0) (fun _=>rfl))
     (pss_cons (ps_set (i:=4) sc_number.nd rfl (Or.inl rfl) (pe_op op_sub (pe_op op_add (pe_op op_mul (pv 4) pe_int) (pe_meth0 (pv 0) T.d_Reader.c T.d_Reader_byte_here.me G1 hr1 T.d_Reader_byte_here.b .nil pass0)) (pe_topI T.i_DIGIT_0)))
     (pss_one (ps_fldaug (pv 0) pe_int in_add))))
    (pss_cons (ps_set (i:=5) sc_number.nd rfl (Or.inl rfl) (pe_op op_sub (pe_fld (pv 0) rfl) (pv 3)))
    (pss_cons (ps_if (PW.pt (pw_or (pt_cmpR op_eq (pv 5) pe_int (nomark _)) (pw_or1 (PW.pt (pw_and (pt_cmpR op_gt (pv 5) pe_int (nomark _)) (pw_and1 (pt_cmpR op_eq (pe_ix ix_list (pe_fld (pv 0) rfl) (pv 3) (fun _ _=>rfl)) (pe_topI T.i_DIGIT_0) (nomark _))))))))
     (pss_one (ps_raiseF Z G0 hr (pa_cons (pv 3) pa_nil))) pss_nil)
    (pss_cons (ps_if (PW.pt (pw_or (pt_cmpR op_gt (pv 4) (pv 1) (nomark _)) (pw_or1 (pt_cmpR op_in_seq (pv 4) (pv 2) (by with_unfolding_all rfl)))))
     (pss_one (ps_raiseF Z G0 hr (pa_cons (pv 3) pa_nil))) pss_nil)
    (pss_one (ps_ret (pv 4))))))))),?_⟩
   generalize hs0:skipP l p=s0 at *
   have hs0l:s0<=l.length:=hs0 ▸ skipP_le hp
   have hs0p:p<=s0:=by rw [<- hs0]; unfold skipP; omega
   generalize hd:(l.drop s0).takeWhile isDigit=d
   have hdl:s0 + d.length<=l.length:=by
    have:=(List.takeWhile_sublist isDigit (l:=l.drop s0)).length_le
    rw [hd,List.length_drop] at this
    omega
   have hnum:number (mayN most used) (restAt l p)=if d=[] \/ (d.length ≠ 1/\d.head? = some 48) \/ mayN most used (numberOf d)=false then .bad s0 else .ok (numberOf d) (restAt l (s0 + d.length)):=by
    unfold number
    dsimp only
    rw [rest_skip,hs0]
    show (if (l.drop s0).takeWhile isDigit=[] \/ _ then _ else _)=_
    rw [rest_on]
    show (if (l.drop s0).takeWhile isDigit=[] \/ (((l.drop s0).takeWhile isDigit).length ≠ 1/\((l.drop s0).takeWhile isDigit).head? = some 48) \/ mayN most used (numberOf ((l.drop s0).takeWhile isDigit))=false then Got.bad s0 else Got.ok (numberOf ((l.drop s0).takeWhile isDigit)) (restAt l (s0 + ((l.drop s0).takeWhile isDigit).length)))=_
    rw [hd]
   have hur:u ≠ rd:=ne_of hu hR.o (by intro z; cases z)
   have RA:∀ j,RdAt K T.C_Reader (L2.upd H rd (rdO T.C_Reader dx t n j)) rd dx t n l j:=fun j=>hR.at_ j
   refine ⟨_,rfl,rd,dx,_,rfl,hR.o,rfl,rd,dx,t,n,l,p,rfl,hR,hp,?_⟩
   rw [hs0]
   refine ⟨_,rfl,rd,_,dx,_,_,rfl,(RA s0).o,T.d_Reader.c,T.n_Reader_at,rfl,?_⟩
   refine ⟨fun m σ H'=>∃ j,m=d.length - j/\j<=d.length/\σ=[some (.ref rd),some (.int most),some (.ref u),some (.int (s0:Int)),some (.int (numberOf (d.take j):Int)),none]/\H'=L2.upd H rd (rdO T.C_Reader dx t n (s0 + j)),
    ⟨_,0,rfl,Nat.zero_le _,rfl,rfl⟩,?_⟩
   rintro m σ H' ⟨j,rfl,hj,rfl,rfl⟩
   refine ⟨_,rfl,rd,dx,_,rfl,(RA (s0 + j)).o,rfl,rd,dx,t,n,l,s0 + j,rfl,RA (s0 + j),_,rfl,?_⟩
   have hix:l[s0 + j]? = (l.drop s0)[j]?:=by rw [List.getElem?_drop]
   have hjd:j<=((l.drop s0).takeWhile isDigit).length:=by rw [hd]; exact hj
   refine ite2 (fun hc=>?_) (fun hc=>?_)
   . rw [hix] at hc
     obtain ⟨g1,g2⟩:=tw_go isDigit (l.drop s0) j hjd hc
     rw [hd] at g1 g2
     obtain ⟨c,ec,hdc⟩:∃ c,(l.drop s0)[j]? = some c/\isDigit c=true:=by
      cases e:(l.drop s0)[j]? with
      | none=>rw [e] at hc; cases hc
      | some c=>rw [e] at hc; exact ⟨c,rfl,hc⟩
     have eb:byteAt l (s0 + j)=(c:Int):=byte_of (hix.trans ec)
     have hge:48<=c:=of_decide_eq_true (Bool.and_eq_true_iff.mp hdc).1
     have ev:(numberOf (d.take j):Int) * 10 + byteAt l (s0 + j) - 48=(numberOf (d.take (j + 1)):Int):=by
      rw [eb,number_step (g2.trans ec)]
      omega
     refine ⟨fun σ' H'=>σ'=[some (.ref rd),some (.int most),some (.ref u),some (.int (s0:Int)),some (.int ((numberOf (d.take j):Int) * 10 + byteAt l (s0 + j) - 48)),none]/\H'=L2.upd H rd (rdO T.C_Reader dx t n (s0 + (j + 1))),?_,?_⟩
     . rintro σ' H' ⟨rfl,rfl⟩
       exact ⟨d.length - (j + 1),by omega,j + 1,rfl,g1,by rw [ev],rfl⟩
     . refine ⟨_,rfl,_,_,rfl,rfl,Or.inr ⟨by decide,by decide⟩,_,rfl,rd,dx,_,rfl,(RA (s0 + j)).o,rfl,rd,dx,t,n,l,s0 + j,rfl,RA (s0 + j),_,_,rfl,rfl,_,_,rfl,rfl,?_⟩
       refine ⟨_,rfl,rd,_,dx,_,_,rfl,(RA (s0 + j)).o,T.d_Reader.c,T.n_Reader_at,rfl,_,_,rfl,rfl,_,_,(RA (s0 + j)).o,by show 3 < 1000; decide,rfl,?_⟩
       exact upd_upd
   . have ej:j=d.length:=by
      rw [hix] at hc
      have:=tw_stop isDigit (l.drop s0) j hjd (Bool.eq_false_iff.mpr hc)
      rw [hd] at this
      exact this
     subst ej
     rw [List.take_length]
     refine ⟨_,rfl,rd,_,dx,_,_,rfl,(RA (s0 + d.length)).o,T.d_Reader.c,T.n_Reader_at,rfl,_,rfl,_,_,rfl,rfl,?_⟩
     have eD:((s0 + d.length:Nat):Int) - (s0:Int)=(d.length:Int):=by omega
     have bad:(d=[] \/ (d.length ≠ 1/\d.head? = some 48) \/ mayN most used (numberOf d)=false)->∀ dd,L2.upd H rd (rdO T.C_Reader dx t n (s0 + d.length)) dd=none->E (.ref CF) (some dd) (L2.upd (L2.upd H rd (rdO T.C_Reader dx t n (s0 + d.length))) dd (.xd [("place",.int (s0:Int))])):=fun hb=>
      (q2 s0 (by rw [hnum,if_pos hb])).to
     refine ⟨_,rfl,rfl,_,rfl,?_⟩
     refine ite2 (fun hc=>?_) (fun hc=>?_)
     . refine iteT ⟨_,rfl,_,rfl,bad (.inl ?_)⟩
       have:=V.int.inj (of_decide_eq_true hc)
       exact List.length_eq_zero_iff.mp (by omega)
     . have hd0:0 < d.length:=by
        rcases Nat.eq_zero_or_pos d.length with z | z
        . exact absurd (decide_eq_true (congrArg V.int (by omega))) hc
        . exact z
       have hlt:s0 < l.length:=by omega
       have hhd:d.head? = l[s0]?:=by
        obtain ⟨_,b⟩:=tw_go isDigit (l.drop s0) 0 (Nat.zero_le _) (by
         cases e:(l.drop s0)[0]? with
         | none=>rw [List.getElem?_drop,List.getElem?_eq_none_iff] at e; omega
         | some c=>
          cases hdc:isDigit c with
          | true=>exact hdc
          | false=>
           have:=tw_stop isDigit (l.drop s0) 0 (Nat.zero_le _) (by rw [e]; exact hdc)
           rw [hd] at this
           omega)
        rw [hd] at b
        rw [List.head?_eq_getElem?,b,List.getElem?_drop,Nat.add_zero]
       refine ⟨_,rfl,_,_,rfl,rfl,_,rfl,?_⟩
       have more:∀ {A B:Prop},(d.length ≠ 1/\d.head? = some 48->A)->(¬ (d.length ≠ 1/\d.head? = some 48)->B)->A \/ B:=fun {A B} h1 h2=>by
        by_cases z:d.length ≠ 1/\d.head? = some 48
        . exact .inl (h1 z)
        . exact .inr (h2 z)
       have rest:¬ (d.length ≠ 1/\d.head? = some 48)->(tSeq (tIfS (tOr (tTest (tOp (rI0 fun i j=>V.bl (decide (j < i))) (tVar 4) (tVar 1))) (tTest (tOp (rIn K false) (tVar 4) (tVar 2))))
        (fun _ σ H=>tCons (tVar 3) tNil σ H fun vs H1=>∃ y,vs=[y]/\∀ (d:Addr),H1 d=none->E (Value.ref CF) (some d) (upd H1 d (HO.xd [("place",y)]))) tNext) (tRet (tVar 4))) { nx:=fun x H'=>Q V.non H',rt:=Q }
        [some (V.ref rd),some (V.int most),some (V.ref u),some (V.int (s0:Int)),some (V.int (numberOf d:Int)),some (.int (((s0 + d.length:Nat):Int) - (s0:Int)))] (L2.upd H rd (rdO T.C_Reader dx t n (s0 + d.length))):=by
        intro hn
        refine ⟨_,rfl,_,rfl,_,_,rfl,rfl,_,rfl,?_⟩
        refine ite2 (fun hc=>?_) (fun hc=>?_)
        . refine iteT ⟨_,rfl,_,rfl,bad (.inr (.inr ?_))⟩
          unfold mayN
          rw [decide_eq_false (by have:=of_decide_eq_true hc; omega),Bool.false_and]
        . refine ⟨_,rfl,_,rfl,u,natV used,rfl,.inl (SqL.of (by rw [upd_ne hur]; exact hu)),rfl,flat_nat used,_,rfl,?_⟩
          refine ite2 (fun hc2=>?_) (fun hc2=>?_)
          . have hc2:inV (.int (numberOf d:Int)) (natV used)=true:=hc2
            rw [inV_nat] at hc2
            refine ⟨_,rfl,_,rfl,bad (.inr (.inr ?_))⟩
            unfold mayN
            rw [hc2]
            exact Bool.and_false _
          . have hc2:¬ inV (.int (numberOf d:Int)) (natV used)=true:=hc2
            rw [inV_nat] at hc2
            refine ⟨_,rfl,q1 _ _ ?_ (by omega) hdl⟩
            rw [hnum,if_neg]
            rintro (z | z | z)
            . rw [z] at hd0
              exact absurd hd0 (by decide)
            . exact hn z
            . unfold mayN at z
              rw [decide_eq_true (by
               have:¬ (most < (numberOf d:Int)):=fun y=>hc (decide_eq_true y)
               omega),Bool.true_and,Bool.not_eq_false'] at z
              exact hc2 z
       refine ite2 (fun hc1=>?_) (fun hc1=>?_)
       . have h1:d.length ≠ 1:=by
          have:=of_decide_eq_true hc1
          omega
         have hg:(natV l)[s0]? = some (.int (l[s0]:Int)):=by
          unfold natV
          rw [List.getElem?_map,List.getElem?_eq_getElem hlt]
          rfl
         refine ⟨_,rfl,rd,_,dx,_,_,rfl,(RA (s0 + d.length)).o,T.d_Reader.c,T.n_Reader_text,rfl,_,rfl,t,natV l,(s0:Int),_,rfl,rfl,(RA (s0 + d.length)).txt,atI_nat hg,rfl,_,rfl,?_⟩
         refine ite2 (fun hc2=>?_) (fun hc2=>?_)
         . refine ⟨_,rfl,_,rfl,bad (.inr (.inl ⟨h1,?_⟩))⟩
           have:=V.int.inj (of_decide_eq_true hc2)
           rw [hhd,List.getElem?_eq_getElem hlt]
           exact congrArg some (Int.ofNat.inj this)
         . refine rest fun z=>?_
           have:=z.2
           rw [hhd,List.getElem?_eq_getElem hlt] at this
           exact hc2 (decide_eq_true (congrArg V.int (congrArg Int.ofNat (Option.some.inj this))))
       . refine iteF (rest fun z=>?_)
         exact hc1 (decide_eq_true (by have:=z.1; omega))
end
end Q
end
section
namespace OmMath
open Omega
def undoStep (x:Step):Step:=(undo x.1,x.2.1,x.2.2)
def undoAll (l:List Step):List Step:=l.reverse.map undoStep
theorem undo_undo (g:Nat):undo (undo g)=g:=by
 unfold undo
 repeat' split
 all_goals omega
theorem undoStep_twice (x:Step):undoStep (undoStep x)=x:=by
 obtain ⟨g,q,c⟩:=x
 simp [undoStep,undo_undo]
theorem undoAll_twice (l:List Step):undoAll (undoAll l)=l:=by
 unfold undoAll
 rw [<- List.map_reverse,List.reverse_reverse,List.map_map]
 have:undoStep ∘ undoStep=id:=funext undoStep_twice
 rw [this,List.map_id]
theorem undoAll_append (l m:List Step):undoAll (l ++ m)=undoAll m ++ undoAll l:=by
 simp [undoAll]
def times_ (k:Nat) (l:List Step):List Step:=(List.replicate k l).flatten
theorem times_succ (k:Nat) (l:List Step):times_ (k + 1) l=l ++ times_ k l:=by
 simp [times_,List.replicate_succ]
theorem times_snoc (k:Nat) (l:List Step):times_ k l ++ l=l ++ times_ k l:=by
 induction k with
 | zero=>simp [times_]
 | succ k ih=>rw [times_succ,List.append_assoc,ih]
theorem undoAll_times (k:Nat) (l:List Step):undoAll (times_ k l)=times_ k (undoAll l):=by
 induction k with
 | zero=>rfl
 | succ k ih=>rw [times_succ,times_succ,undoAll_append,ih,times_snoc]
theorem times_length (k:Nat) (l:List Step):(times_ k l).length=l.length * k:=by
 induction k with
 | zero=>simp [times_]
 | succ k ih=>rw [times_succ,List.length_append,ih,Nat.mul_succ,Nat.add_comm]
theorem steps_both:∀ (c:Circ),c.steps true=undoAll (c.steps false)/\(c.steps false).length=c.count
 | .none=>⟨rfl,rfl⟩
 | .gate g q k=>⟨rfl,rfl⟩
 | .seq a b=>by
  obtain ⟨a1,a2⟩:=steps_both a
  obtain ⟨b1,b2⟩:=steps_both b
  refine ⟨?_,?_⟩
  . show b.steps true ++ a.steps true=undoAll (a.steps false ++ b.steps false)
    rw [undoAll_append,a1,b1]
  . show (a.steps false ++ b.steps false).length=a.count + b.count
    rw [List.length_append,a2,b2]
 | .back a=>by
  obtain ⟨a1,a2⟩:=steps_both a
  refine ⟨?_,?_⟩
  . show a.steps false=undoAll (a.steps true)
    rw [a1,undoAll_twice]
  . show (a.steps true).length=a.count
    rw [a1,<- a2]
    simp [undoAll]
 | .times n a=>by
  obtain ⟨a1,a2⟩:=steps_both a
  refine ⟨?_,?_⟩
  . show times_ n (a.steps true)=undoAll (times_ n (a.steps false))
    rw [a1,undoAll_times]
  . show (times_ n (a.steps false)).length=n * a.count
    rw [times_length,a2,Nat.mul_comm]
theorem steps_length (c:Circ):(c.steps false).length=c.count:=(steps_both c).2
theorem steps_true (c:Circ):c.steps true=undoAll (c.steps false):=(steps_both c).1
theorem dropWhile_idem {α:Type} (p:α->Bool):∀ l:List α,(l.dropWhile p).dropWhile p=l.dropWhile p
 | []=>rfl
 | x :: l=>by
  cases h:p x with
  | true=>simp only [List.dropWhile_cons,h,if_true]; exact dropWhile_idem p l
  | false=>simp [h]
theorem takeWhile_drop {α:Type} (p:α->Bool):∀ l:List α,(l.dropWhile p).takeWhile p=[]
 | []=>rfl
 | x :: l=>by
  cases h:p x with
  | true=>simp only [List.dropWhile_cons,h,if_true]; exact takeWhile_drop p l
  | false=>simp [h]
theorem skip_skip (r:Rest):r.skip.skip=r.skip:=by
 unfold Rest.skip
 simp only [dropWhile_idem,takeWhile_drop,List.length_nil,Nat.add_zero]
theorem dropWhile_le {α:Type} (p:α->Bool):∀ l:List α,(l.dropWhile p).length<=l.length
 | []=>Nat.le_refl _
 | x :: l=>by
  rw [List.dropWhile_cons]
  split
  . exact Nat.le_succ_of_le (dropWhile_le p l)
  . exact Nat.le_refl _
theorem skip_le (r:Rest):r.skip.text.length<=r.text.length:=dropWhile_le _ _
theorem on_len (r:Rest) (n:Nat):(r.on n).text.length=r.text.length - n:=List.length_drop ..
theorem on_lt {r:Rest} {c:Nat} (h:r.text.head? = some c):(r.on 1).text.length + 1=r.text.length:=by
 rw [on_len]
 cases e:r.text with
 | nil=>rw [e] at h; cases h
 | cons x l=>simp
theorem number_lt {may:Nat->Bool} {r s:Rest} {v:Nat} (h:number may r = .ok v s):s.text.length < r.text.length:=by
 unfold number at h
 dsimp only at h
 split at h
 . cases h
 . next hc=>
   injection h with h1 h2
   subst h2
   rw [on_len]
   have hd:r.skip.text.takeWhile isDigit ≠ []:=fun e=>hc (.inl e)
   have h1:0 < (r.skip.text.takeWhile isDigit).length:=List.length_pos_iff.mpr hd
   have h2:=skip_le r
   have h3:(r.skip.text.takeWhile isDigit).length<=r.skip.text.length:=List.takeWhile_sublist _ |>.length_le
   omega
theorem controls_fuel:∀ (f f' n q c:Nat) (r:Rest),r.text.length < f->r.text.length < f'->controls f n q c r=controls f' n q c r
 | 0,_,_,_,_,_,h,_=>by omega
 | _,0,_,_,_,_,_,h=>by omega
 | f + 1,f' + 1,n,q,c,r,h,h'=>by
  unfold controls
  cases e:number (fun v=>decide (v < n) && (decide (v ≠ q) && !c.testBit v)) r with
  | bad p=>rfl
  | ok v s=>
   have hs:=number_lt e
   dsimp only
   split
   . next hc=>
     have h1:=on_lt hc
     have h2:=skip_le s
     exact controls_fuel f f' n q _ _ (by omega) (by omega)
   . rfl
theorem controls_le:∀ (f n q c:Nat) (r:Rest) {v:Nat} {s:Rest},controls f n q c r = .ok v s->s.text.length < r.text.length
 | 0,_,_,_,_,_,_,h=>by cases h
 | f + 1,n,q,c,r,v,s,h=>by
  unfold controls at h
  cases e:number (fun v=>decide (v < n) && (decide (v ≠ q) && !c.testBit v)) r with
  | bad p=>rw [e] at h; cases h
  | ok v1 s1=>
   rw [e] at h
   dsimp only at h
   have h1:=number_lt e
   split at h
   . next hc=>
     have:=controls_le f _ _ _ _ h
     have h3:=on_lt hc
     have h2:=skip_le s1
     omega
   . injection h with h4 h5
     subst h5
     exact h1
theorem gateAt_fuel {f f' n g:Nat} {r:Rest} (h:r.text.length < f) (h':r.text.length < f'):gateAt f n g r=gateAt f' n g r:=by
 unfold gateAt
 dsimp only
 generalize e0:(if (r.skip.text.head? == some QUOTE)=true then r.skip.on 1 else r.skip)=r1
 have hr1:r1.text.length<=r.text.length:=by
  subst e0
  split
  . have:=skip_le r
    rw [on_len]
    omega
  . exact skip_le r
 cases e:number (fun v=>decide (v < n)) r1 with
 | bad p=>rfl
 | ok q s=>
  have hs:=number_lt e
  dsimp only
  split
  . next hc=>
    have h1:=on_lt hc
    have h2:=skip_le s
    rw [controls_fuel f f' n q 0 _ (by omega) (by omega)]
  . rfl
theorem gateAt_lt {f n g:Nat} {r s:Rest} {a:Circ} (h:gateAt f n g r = .ok a s):s.text.length < r.text.length:=by
 unfold gateAt at h
 dsimp only at h
 generalize e0:(if (r.skip.text.head? == some QUOTE)=true then r.skip.on 1 else r.skip)=r1 at h
 have hr1:r1.text.length<=r.text.length:=by
  subst e0
  split
  . have:=skip_le r
    rw [on_len]
    omega
  . exact skip_le r
 cases e:number (fun v=>decide (v < n)) r1 with
 | bad p=>rw [e] at h; cases h
 | ok q s1=>
  rw [e] at h
  dsimp only at h
  have hs:=number_lt e
  split at h
  . next hc=>
    have h1:=on_lt hc
    have h2:=skip_le s1
    cases e2:controls f n q 0 (s1.skip.on 1) with
    | bad p=>rw [e2] at h; cases h
    | ok c t=>
     rw [e2] at h
     dsimp only at h
     injection h with h3 h4
     subst h4
     have:=controls_le _ _ _ _ _ e2
     omega
  . injection h with h3 h4
    subst h4
    omega
abbrev Blk:=Bool × List Step
inductive Ph where
 | item
 | blk (back:Bool)
 | after
structure MS where
 ph:Ph
 top:Blk
 stk:List Blk
 r:Rest
inductive Res where
 | fault (p:Nat)
 | good (l:List Step)
def merged (k:Nat) (inner outer:Blk):Blk:=(outer.1,outer.2 ++ times_ k (if inner.1=true then undoAll inner.2 else inner.2))
def mstep (n:Nat) (m:MS):MS ⊕ Res:=match m.ph with
 | .item=>
  let r:=m.r.skip
  if r.text.head? = some TILDE then .inl ⟨.blk true,m.top,m.stk,(r.on 1).skip⟩
  else if r.text.head? = some OPEN then .inl ⟨.blk false,m.top,m.stk,r⟩
  else match r.text.head?.bind letter with
   | some g=>(match gateAt (r.text.length + 1) n g (r.on 1) with
    | .bad p=>.inr (.fault p)
    | .ok a s=>.inl ⟨.after,(m.top.1,m.top.2 ++ a.steps false),m.stk,s⟩)
   | none=>.inl ⟨.after,m.top,m.stk,r⟩
 | .blk back=>if m.r.text.head? ≠ some OPEN \/ DEEP<=m.stk.length then .inr (.fault m.r.at_) else .inl ⟨.item,(back,[]),m.top :: m.stk,m.r.on 1⟩
 | .after=>
  let r:=m.r.skip
  match m.stk with
  | []=>if r.text.head? = some SEMI then .inl ⟨.item,m.top,[],r.on 1⟩ else if r.text=[] then .inr (.good m.top.2) else .inr (.fault r.at_)
  | b :: stk=>if r.text.head? = some CLOSE then
   (if (r.on 1).skip.text.head? = some HAT then (match number (fun (v:Nat)=>decide (v<=1000)) ((r.on 1).skip.on 1) with
    | .bad p=>.inr (.fault p)
    | .ok k t=>.inl ⟨.after,merged k m.top b,stk,t⟩)
   else .inl ⟨.after,merged 1 m.top b,stk,r.on 1⟩)
   else if r.text.head? = some SEMI then .inl ⟨.item,m.top,b :: stk,r.on 1⟩ else .inr (.fault r.at_)
inductive Runs (n:Nat):MS->Res->Prop
 | step {m m':MS} {R:Res} (e:mstep n m = .inl m') (h:Runs n m' R):Runs n m R
 | done {m:MS} {R:Res} (e:mstep n m = .inr R):Runs n m R
theorem Runs.next {n:Nat} {m m':MS} {R:Res} (h:Runs n m R) (e:mstep n m = .inl m'):Runs n m' R:=by
 cases h with
 | step e' h=>rw [e] at e'; cases e'; exact h
 | done e'=>rw [e] at e'; cases e'
theorem Runs.end_ {n:Nat} {m:MS} {R R':Res} (h:Runs n m R) (e:mstep n m = .inr R'):R=R':=by
 cases h with
 | step e' h=>rw [e] at e'; cases e'
 | done e'=>rw [e] at e'; cases e'; rfl
theorem times_one (l:List Step):times_ 1 l=l:=by simp [times_]
theorem merged_steps (k:Nat) (bk:Bool) (a:Circ) (b:Blk):merged k (bk,a.steps false) b=(b.1,b.2 ++ (Circ.times k a).steps bk):=by
 unfold merged
 cases bk with
 | true=>
  show (b.1,b.2 ++ times_ k (undoAll (a.steps false)))=(b.1,b.2 ++ times_ k (a.steps true))
  rw [steps_true]
 | false=>rfl
theorem merged_one (bk:Bool) (a:Circ) (b:Blk):merged 1 (bk,a.steps false) b=(b.1,b.2 ++ a.steps bk):=by
 rw [merged_steps]
 show (b.1,b.2 ++ times_ 1 (a.steps bk))=_
 rw [times_one]
def GotC (n:Nat) (r:Rest) (top:Blk) (stk:List Blk):Got Circ->Prop
 | .bad p=>Runs n ⟨.item,top,stk,r⟩ (.fault p)
 | .ok a s=>s.text.length<=r.text.length/\s.skip=s/\s.text.head? ≠ some SEMI/\∀ R,Runs n ⟨.after,(top.1,top.2 ++ a.steps false),stk,s⟩ R->Runs n ⟨.item,top,stk,r⟩ R
def GotI (n:Nat) (r:Rest) (top:Blk) (stk:List Blk):Got Circ->Prop
 | .bad p=>Runs n ⟨.item,top,stk,r⟩ (.fault p)
 | .ok a s=>s.text.length<=r.text.length/\∀ R,Runs n ⟨.after,(top.1,top.2 ++ a.steps false),stk,s⟩ R->Runs n ⟨.item,top,stk,r⟩ R
def GotB (n:Nat) (r:Rest) (top:Blk) (stk:List Blk) (bk:Bool):Got Circ->Prop
 | .bad p=>Runs n ⟨.blk bk,top,stk,r⟩ (.fault p)
 | .ok a s=>s.text.length<=r.text.length/\∀ R,Runs n ⟨.after,(top.1,top.2 ++ a.steps bk),stk,s⟩ R->Runs n ⟨.blk bk,top,stk,r⟩ R
theorem item_skip {n:Nat} {top:Blk} {stk:List Blk} {r:Rest} {R:Res} (h:Runs n ⟨.item,top,stk,r.skip⟩ R):Runs n ⟨.item,top,stk,r⟩ R:=by
 have e:mstep n ⟨.item,top,stk,r.skip⟩ = mstep n ⟨.item,top,stk,r⟩:=by
  simp only [mstep,skip_skip]
 cases h with
 | step e' h=>exact .step (e ▸ e') h
 | done e'=>exact .done (e ▸ e')
theorem after_skip {n:Nat} {top:Blk} {stk:List Blk} {r:Rest} {R:Res} (h:Runs n ⟨.after,top,stk,r.skip⟩ R):Runs n ⟨.after,top,stk,r⟩ R:=by
 have e:mstep n ⟨.after,top,stk,r.skip⟩ = mstep n ⟨.after,top,stk,r⟩:=by
  simp only [mstep,skip_skip]
 cases h with
 | step e' h=>exact .step (e ▸ e') h
 | done e'=>exact .done (e ▸ e')
theorem after_skip' {n:Nat} {top:Blk} {stk:List Blk} {r:Rest} {R:Res} (h:Runs n ⟨.after,top,stk,r⟩ R):Runs n ⟨.after,top,stk,r.skip⟩ R:=by
 have e:mstep n ⟨.after,top,stk,r⟩ = mstep n ⟨.after,top,stk,r.skip⟩:=by
  simp only [mstep,skip_skip]
 cases h with
 | step e' h=>exact .step (e ▸ e') h
 | done e'=>exact .done (e ▸ e')
theorem letter_not {c g:Nat} (h:letter c=some g):c ≠ TILDE/\c ≠ OPEN:=by
 constructor
 . intro e
   subst e
   have:letter TILDE=none:=by decide
   rw [this] at h
   cases h
 . intro e
   subst e
   have:letter OPEN=none:=by decide
   rw [this] at h
   cases h
set_option maxHeartbeats 1000000 in
theorem read_runs (n:Nat):∀ (f:Nat),
 (∀ (o:Nat) (r:Rest) (top:Blk) (stk:List Blk),4 * r.text.length + 4<=f->stk.length=o->GotC n r top stk (Omega.read f n o .circuit r)) /\
 (∀ (o:Nat) (r:Rest) (top:Blk) (stk:List Blk),4 * r.text.length + 3<=f->stk.length=o->r.skip=r->GotI n r top stk (Omega.read f n o .item r)) /\
 (∀ (o:Nat) (r:Rest) (top:Blk) (stk:List Blk) (bk:Bool),4 * r.text.length + 2<=f->stk.length=o->GotB n r top stk bk (Omega.read f n o .block r))
 | 0=>⟨fun _ _ _ _ h=>by omega,fun _ _ _ _ h=>by omega,fun _ _ _ _ _ h=>by omega⟩
 | f + 1=>by
  obtain ⟨hC,hI,hB⟩:=read_runs n f
  refine ⟨?_,?_,?_⟩
  . -- a circuit
    intro o r top stk hf ho
    have i1:=hI o r.skip top stk (by have:=skip_le r; omega) ho (skip_skip r)
    show GotC n r top stk (Omega.read (f + 1) n o .circuit r)
    unfold Omega.read
    dsimp only
    cases e1:Omega.read f n o .item r.skip with
    | bad p=>
     rw [e1] at i1
     exact item_skip i1
    | ok a s=>
     rw [e1] at i1
     obtain ⟨l1,k1⟩:=i1
     dsimp only
     have l0:=skip_le r
     have l2:=skip_le s
     split
     . next hs=>
       have l3:=on_lt hs
       have c2:=hC o (s.skip.on 1) (top.1,top.2 ++ a.steps false) stk (by omega) ho
       have st:∀ R,Runs n ⟨.item,(top.1,top.2 ++ a.steps false),stk,s.skip.on 1⟩ R->Runs n ⟨.item,top,stk,r⟩ R:=by
        intro R h
        refine item_skip (k1 R (.step ?_ h))
        unfold mstep
        dsimp only
        cases stk with
        | nil=>
         dsimp only
         rw [if_pos hs]
        | cons b stk=>
         dsimp only
         rw [if_neg (by rw [hs]; decide),if_pos hs]
       cases e2:Omega.read f n o .circuit (s.skip.on 1) with
       | bad p=>
        rw [e2] at c2
        exact st _ c2
       | ok b t=>
        rw [e2] at c2
        obtain ⟨m1,m2,m3,m4⟩:=c2
        refine ⟨by omega,m2,m3,fun R h=>st R (m4 R ?_)⟩
        have:(Circ.seq a b).steps false=a.steps false ++ b.steps false:=rfl
        rw [this] at h
        simpa [List.append_assoc] using h
     . next hs=>
       refine ⟨by omega,skip_skip s,hs,fun R h=>item_skip (k1 R (after_skip h))⟩
  . -- an item
    intro o r top stk hf ho hr
    show GotI n r top stk (Omega.read (f + 1) n o .item r)
    unfold Omega.read
    dsimp only
    cases e0:r.text.head? with
    | none=>
     dsimp only
     refine ⟨Nat.le_refl _,fun R h=>.step ?_ h⟩
     unfold mstep
     dsimp only
     rw [hr,e0]
     simp [Circ.steps]
    | some c=>
     dsimp only
     cases e1:letter c with
     | some g=>
      dsimp only
      obtain ⟨n1,n2⟩:=letter_not e1
      have l1:=on_lt e0
      have fu:gateAt f n g (r.on 1)=gateAt (r.text.length + 1) n g (r.on 1):=gateAt_fuel (by omega) (by omega)
      rw [fu]
      have ms:mstep n ⟨.item,top,stk,r⟩ = (match gateAt (r.text.length + 1) n g (r.on 1) with
       | .bad p=>.inr (.fault p)
       | .ok a s=>.inl ⟨.after,(top.1,top.2 ++ a.steps false),stk,s⟩):=by
       unfold mstep
       dsimp only
       rw [hr,e0,if_neg (by simpa using n1),if_neg (by simpa using n2)]
       simp only [Option.bind_some,e1]
      cases e2:gateAt (r.text.length + 1) n g (r.on 1) with
      | bad p=>
       rw [e2] at ms
       exact .done ms
      | ok a s=>
       rw [e2] at ms
       have:=gateAt_lt e2
       exact ⟨by omega,fun R h=>.step ms h⟩
     | none=>
      dsimp only
      split
      . next hc=>
        subst hc
        have l1:=on_lt e0
        have l2:=skip_le (r.on 1)
        have b1:=hB o (r.on 1).skip top stk true (by omega) ho
        have ms:mstep n ⟨.item,top,stk,r⟩ = .inl ⟨.blk true,top,stk,(r.on 1).skip⟩:=by
         unfold mstep
         dsimp only
         rw [hr,if_pos e0]
        cases e2:Omega.read f n o .block (r.on 1).skip with
        | bad p=>
         rw [e2] at b1
         exact .step ms b1
        | ok a s=>
         rw [e2] at b1
         exact ⟨by have:=b1.1; omega,fun R h=>.step ms (b1.2 R h)⟩
      . next hc=>
        split
        . next hc2=>
          subst hc2
          have b1:=hB o r top stk false (by omega) ho
          have ms:mstep n ⟨.item,top,stk,r⟩ = .inl ⟨.blk false,top,stk,r⟩:=by
           unfold mstep
           dsimp only
           rw [hr,e0,if_neg (by decide),if_pos rfl]
          cases e2:Omega.read f n o .block r with
          | bad p=>
           rw [e2] at b1
           exact .step ms b1
          | ok a s=>
           rw [e2] at b1
           exact ⟨b1.1,fun R h=>.step ms (b1.2 R h)⟩
        . next hc2=>
          refine ⟨Nat.le_refl _,fun R h=>.step ?_ h⟩
          unfold mstep
          dsimp only
          rw [hr,e0,if_neg (by simpa using hc),if_neg (by simpa using hc2)]
          simp [e1,Circ.steps]
  . -- a block
    intro o r top stk bk hf ho
    show GotB n r top stk bk (Omega.read (f + 1) n o .block r)
    unfold Omega.read
    dsimp only
    split
    . next hc=>
      refine .done ?_
      unfold mstep
      dsimp only
      rw [ho,if_pos hc]
    . next hc=>
      have hop:r.text.head? = some OPEN:=Classical.byContradiction fun q=>hc (.inl q)
      have l1:=on_lt hop
      have ms:mstep n ⟨.blk bk,top,stk,r⟩ = .inl ⟨.item,(bk,[]),top :: stk,r.on 1⟩:=by
       unfold mstep
       dsimp only
       rw [ho,if_neg hc]
      have c1:=hC (o + 1) (r.on 1) (bk,[]) (top :: stk) (by omega) (by simp [ho])
      cases e1:Omega.read f n (o + 1) .circuit (r.on 1) with
      | bad p=>
       rw [e1] at c1
       exact .step ms c1
      | ok a s=>
       rw [e1] at c1
       obtain ⟨m1,m2,m3,m4⟩:=c1
       dsimp only
       have m4':∀ R,Runs n ⟨.after,(bk,a.steps false),top :: stk,s⟩ R->Runs n ⟨.blk bk,top,stk,r⟩ R:=fun R h=>.step ms (m4 R (by simpa using h))
       split
       . next hs=>
         refine m4' _ (.done ?_)
         unfold mstep
         dsimp only
         rw [m2,if_neg hs,if_neg m3]
       . next hs=>
         have hcl:s.text.head? = some CLOSE:=Classical.byContradiction fun q=>hs q
         have l2:=on_lt hcl
         split
         . next hh=>
           have l3:=on_lt hh
           have l4:=skip_le (s.on 1)
           cases e2:number (fun (v:Nat)=>decide (v<=1000)) ((s.on 1).skip.on 1) with
           | bad p=>
            refine m4' _ (.done ?_)
            unfold mstep
            dsimp only
            rw [m2,if_pos hcl,if_pos hh,e2]
           | ok k t=>
            have:=number_lt e2
            refine ⟨by omega,fun R h=>m4' R (.step ?_ h)⟩
            unfold mstep
            dsimp only
            rw [m2,if_pos hcl,if_pos hh,e2]
            dsimp only
            rw [merged_steps]
         . next hh=>
           refine ⟨by omega,fun R h=>m4' R (.step ?_ h)⟩
           unfold mstep
           dsimp only
           rw [m2,if_pos hcl,if_neg hh,merged_one]
def readRes (n:Nat) (t:Text):Res:=match readText n t with
 | .bad p=>.fault p
 | .ok a _=>.good (a.steps false)
theorem readText_runs (n:Nat) (t:Text):Runs n ⟨.item,(false,[]),[],⟨t,0⟩⟩ (readRes n t):=by
 have h:=(read_runs n (4 * t.length + 8)).1 0 ⟨t,0⟩ (false,[]) [] (by show 4 * t.length + 4<=_; omega) rfl
 unfold readRes readText
 cases e   : Omega.read (4 * t.length + 8) n 0 .circuit ⟨t,0⟩ with
 | bad p=>
  rw [e] at h
  exact h
 | ok a s=>
  rw [e] at h
  obtain ⟨_,h2,h3,h4⟩:=h
  dsimp only
  by_cases hs:s.text=[]
  . rw [if_pos hs]
    refine h4 _ (.done ?_)
    unfold mstep
    dsimp only
    rw [h2,if_neg h3,if_pos hs]
    rfl
  . rw [if_neg hs]
    refine h4 _ (.done ?_)
    unfold mstep
    dsimp only
    rw [h2,if_neg h3,if_neg hs]
end OmMath
end
section
namespace Q
open PySem PySem.Spec PyProof.Rows L2 Omega OmMath
def stepV (x:Omega.Step):HO:=.tup [.int (x.1:Int),.int (x.2.1:Int),.int (x.2.2:Int)]
def StepAt (H:Hp) (v:V) (x:Omega.Step):Prop:=∃ t,v = .ref t/\H t=some (stepV x)
def GatesIn (H:Hp) (xs:List V) (l:List Omega.Step):Prop:=Paired (StepAt H) xs l
def KT (H H':Hp):Prop:=∀ a xs,H a=some (.tup xs)->H' a=some (.tup xs)
theorem KT.same {H H':Hp} (e:Same H H'):KT H H':=fun a xs q=>e a _ q
theorem KT.but {D:Addr} {H H':Hp} (e:But D H H') (hD:∀ xs,H D ≠ some (.tup xs)):KT H H':=fun a xs q=>e a _ (fun z=>hD xs (z ▸ q)) q
theorem KT.trans {H H1 H2:Hp} (a:KT H H1) (b:KT H1 H2):KT H H2:=fun c xs q=>b c xs (a c xs q)
theorem GatesIn.kt {H H':Hp} {xs:List V} {l:List Omega.Step} (h:GatesIn H xs l) (e:KT H H'):GatesIn H' xs l:=Paired.mapP h fun v x ⟨t,a,b⟩=>⟨t,a,e t _ b⟩
theorem GatesIn.len {H:Hp} {xs:List V} {l:List Omega.Step} (h:GatesIn H xs l):xs.length=l.length:=Paired.length h
theorem paired_get {α β:Type} {F:α->β->Prop}:∀ {xs:List α} {l:List β},Paired F xs l->∀ {i:Nat} {v:α},xs[i]? = some v->∃ x,l[i]? = some x/\F v x
 | _,_,.nil,i,v,h=>by cases h
 | _,_,.cons r t,0,v,h=>by cases h; exact ⟨_,rfl,r⟩
 | _,_,.cons r t,i + 1,v,h=>paired_get t (i:=i) h
theorem paired_append {α β:Type} {F:α->β->Prop}:∀ {xs ys:List α} {l m:List β},Paired F xs l->Paired F ys m->Paired F (xs ++ ys) (l ++ m)
 | _,_,_,_,.nil,h=>h
 | _,_,_,_,.cons r t,h=>.cons r (paired_append t h)
theorem GatesIn.times {H:Hp} {xs:List V} {l:List Omega.Step} (h:GatesIn H xs l):∀ k:Nat,GatesIn H (List.replicate k xs).flatten (times_ k l)
 | 0=>.nil
 | k + 1=>by
  rw [List.replicate_succ,List.flatten_cons,times_succ]
  exact paired_append h (GatesIn.times h k)
theorem lc_rev {K:PySem.W.Frag} {a:Addr} {xs:List V} {g:TG} {tt:TT} {te:TE} {vs:List Nat} {σ:L2.St} {H1:Hp} {D:Addr} {Qd:Hp->Prop} (Pv:Nat->Hp->Prop) (h0:Pv 0 (L2.upd H1 D (.lst []))) (hl:∀ i H,i<=xs.length->Pv i H->SqL K H a xs)
 (hs:∀ i x H,i < xs.length->xs[xs.length - 1 - i]? = some x->Pv i H->g x (wipe σ vs) H fun σ2 H2=>wipe σ2 vs=wipe σ vs/\tt σ2 H2 fun b H3=>
  if b=true then te σ2 H3 fun y H4=>∃ acc,H4 D=some (.lst acc)/\acc.length < sizeLine/\Pv (i + 1) (L2.upd H4 D (.lst (acc ++ [y]))) else Pv (i + 1) H3) (hd:∀ H,Pv xs.length H->Qd H) :
 ∃ W:Nat->Nat->Hp->Prop,(∃ m,W 0 m (L2.upd H1 D (.lst [])))/\∀ i m H,W i m H ->
  ((Itv K a xs.length).stop i H/\Qd H) \/ ((Itv K a xs.length).go i H/\∃ Nx:Hp->Prop,(∀ H',Nx H'->∃ m',m' < m/\W (i + 1) m' H')/\∀ x H',(Itv K a xs.length).yld i H x H'->g x (wipe σ vs) H' fun σ2 H2=>wipe σ2 vs=wipe σ vs/\tt σ2 H2 fun b H3=>
   if b=true then te σ2 H3 fun y H4=>∃ acc,H4 D=some (.lst acc)/\acc.length < sizeLine/\Nx (L2.upd H4 D (.lst (acc ++ [y]))) else Nx H3):=by
 refine ⟨fun i m H=>m=xs.length - i/\i<=xs.length/\Pv i H,⟨_,rfl,Nat.zero_le _,h0⟩,?_⟩
 rintro i m H ⟨rfl,hi,p⟩
 have q:=hl i H hi p
 by_cases hlt:i < xs.length
 . have hlt':xs.length - 1 - i < xs.length:=by omega
   refine .inr ⟨⟨hlt,xs,xs[xs.length - 1 - i],q,List.getElem?_eq_getElem hlt'⟩,Pv (i + 1),fun H' p'=>⟨_,by omega,rfl,hlt,p'⟩,fun x H' y=>?_⟩
   obtain ⟨e,y⟩:=y
   subst e
   exact hs i x _ hlt (y xs q) p
 . have e:i=xs.length:=by omega
   subst e
   exact .inl ⟨Nat.le_refl _,hd H p⟩
theorem undoing_get {g:Nat} (h:g < 8):atI ([0,1,2,3,5,4,7,6].map V.int) (g:Int)=some (.int (undo g:Int)):=by
 match g,h with
 | 0,_=>rfl
 | 1,_=>rfl
 | 2,_=>rfl
 | 3,_=>rfl
 | 4,_=>rfl
 | 5,_=>rfl
 | 6,_=>rfl
 | 7,_=>rfl
theorem undo_lt {g:Nat} (h:g < 8):undo g < 8:=by
 match g,h with
 | 0,_=>decide
 | 1,_=>decide
 | 2,_=>decide
 | 3,_=>decide
 | 4,_=>decide
 | 5,_=>decide
 | 6,_=>decide
 | 7,_=>decide
theorem undoAll_take {l:List Omega.Step} {i:Nat} {x:Omega.Step} (h:i < l.length) (e:l[l.length - 1 - i]? = some x):undoAll (l.drop (l.length - (i + 1)))=undoAll (l.drop (l.length - i)) ++ [undoStep x]:=by
 have h1:l.length - (i + 1)=l.length - 1 - i:=by omega
 have h2:l.length - i=l.length - 1 - i + 1:=by omega
 obtain ⟨hl,rfl⟩:=List.getElem?_eq_some_iff.mp e
 rw [h1,h2,List.drop_eq_getElem_cons hl]
 unfold undoAll
 rw [List.reverse_cons,List.map_append]
 rfl
section
variable {P:Program} {w:World} {K:PySem.W.Frag} {mg:Str->Option Value} {base:Heap}
def spUndone:Sp:=fun vs H Q _=>∃ (a:Addr) (xs:List V) (l:List Omega.Step),vs=[.ref a]/\H a=some (.lst xs)/\GatesIn H xs l/\(∀ x ∈ l,x.1 < 8)/\l.length<=2000 /\
 ∀ (H':Hp) (b:Addr) (ys:List V),Same H H'->H' b=some (.lst ys)->GatesIn H' ys (undoAll l)->Q (.ref b) H'
theorem sc_undone:FnScope ["gates","gate"] ["gates"] (defScope s_undone):=⟨rfl,rfl,rfl,by decide +kernel,rfl,by decide +kernel,by decide +kernel⟩
theorem ok_undone (T:Tx K mg):FnOk P w K mg base CX0 1 T.f_undone T.g_undone ["gates"] spUndone:=by
 refine T.d_undone.F.ok sc_undone (fun vs H Q E h=>?_) (fun cdv A outer s H vs Q E hr h=>?_)
 . obtain ⟨a,xs,l,rfl,_⟩:=h
   rfl
 . obtain ⟨a,xs,l,rfl,ha,hg,h8,hl,k⟩:=h
   refine ⟨_,pss_one (ps_ret (pe_lc (own:=[("gate",1)]) rfl sc_undone.nd (pi_reversed (by rfl) T.b_reversed (pa_cons (pv 0) pa_nil)) (blkOk_by (by show blkC ["gates","gate"] (defScope s_undone) _ _=true; decide +kernel))
    (fun s H C cl fp=>pg_name (i:=1) sc_undone.nd rfl (Or.inl rfl) (.inr rfl)) (fun _ _ _ _ _=>pts_nil)
    (fun _ _ _ _ _=>pe_tup (pa_cons (pe_ix (ix_tupK K) (pe_glob (v:=.ref T.a_UNDOING) (by rfl) T.t_UNDOING.m rfl) (pe_atK K 1 0) (fun _ _=>rfl)) (pa_cons (pe_atK K 1 1) (pa_cons (pe_atK K 1 2) pa_nil)))))),?_⟩
   refine ⟨_,rfl,a,xs,rfl,SqL.of ha,fun D hD=>?_⟩
   refine lc_rev (K:=K) (a:=a) (xs:=xs) (fun i H'=>Same H H'/\∃ ys,H' D=some (.lst ys)/\GatesIn H' ys (undoAll (l.drop (l.length - i)))/\ys.length=i) ⟨Same.upd hD,[],upd_same,by rw [Nat.sub_zero,List.drop_length]; exact .nil,rfl⟩ (fun i H' _ ⟨e,_⟩=>SqL.of (e _ _ ha)) ?_ ?_
   . rintro i v H' hi hv ⟨e,ys,hy,hys,hyl⟩
     obtain ⟨x,hx,t,rfl,ht⟩:=paired_get hg hv
     have hlen:=hg.len
     rw [hlen] at hi hx
     have hx8:=h8 x (List.mem_of_getElem? hx)
     have ht':=e _ _ ht
     refine ⟨rfl,t,_,_,rfl,SqT.of ht',rfl,T.a_UNDOING,_,_,_,rfl,rfl,T.t_UNDOING.at_ _,undoing_get hx8,t,_,_,rfl,SqT.of ht',rfl,t,_,_,rfl,SqT.of ht',rfl,(by show 3<=sizeLine; rw [sizeLine_eq]; decide),fun D2 hD2=>?_⟩
     have e2:=e.trans (Same.upd (o:=.tup [.int (undo x.1:Int),.int (x.2.1:Int),.int (x.2.2:Int)]) hD2)
     have ne:D2 ≠ D:=fun z=>by rw [z,hy] at hD2; cases hD2
     refine ⟨ys,by rw [upd_ne (Ne.symm ne)]; exact hy,by rw [sizeLine_eq]; omega,Same.grown hD e2,ys ++ [.ref D2],upd_same,?_,by rw [List.length_append,hyl]; rfl⟩
     rw [undoAll_take hi hx]
     have kt:KT H' (L2.upd (L2.upd H' D2 (.tup [.int (undo x.1:Int),.int (x.2.1:Int),.int (x.2.2:Int)])) D (.lst (ys ++ [.ref D2]))):=(KT.same (Same.upd hD2)).trans (KT.but But.upd fun zs z=>by rw [upd_ne (Ne.symm ne),hy] at z; cases z)
     exact paired_append (hys.kt kt) (.cons ⟨D2,rfl,by rw [upd_ne ne,upd_same]; rfl⟩ .nil)
   . rintro H' ⟨e,ys,hy,hys,hyl⟩
     refine k H' D ys e hy ?_
     rw [hg.len,Nat.sub_self] at hys
     exact hys
end
def blkO (C dx gl:Addr) (b:Bool) (n:Nat):HO:=.ins C dx [("backwards",.bl b),("total",.int (n:Int)),("gates",.ref gl)]
structure BlkAt (C:Addr) (H:Hp) (x gl:Addr) (b:Blk):Prop where
 o:∃ dx,H x=some (blkO C dx gl b.1 b.2.length)
 g:∃ xs,H gl=some (.lst xs)/\xs.length<=2000/\(b.2.length<=2000->GatesIn H xs b.2)
 low:∀ z ∈ b.2,z.1 < 8
def But2 (x y:Addr) (H H':Hp):Prop:=∀ c o,c ≠ x->c ≠ y->H c=some o->H' c=some o
theorem BlkAt.same {C:Addr} {H H':Hp} {x gl:Addr} {b:Blk} (h:BlkAt C H x gl b) (e:Same H H'):BlkAt C H' x gl b:=by
 obtain ⟨⟨dx,o⟩,⟨xs,g1,g2,g3⟩,l⟩:=h
 exact ⟨⟨dx,e _ _ o⟩,⟨xs,e _ _ g1,g2,fun z=>(g3 z).kt (KT.same e)⟩,l⟩
section
variable {P:Program} {w:World} {K:PySem.W.Frag} {mg:Str->Option Value} {base:Heap}
def spBlock (C:Addr):Sp:=fun vs H Q _=>∃ (x dx:Addr) (b:Bool),vs=[.ref x,.bl b]/\H x=some (.ins C dx [])/\∀ (H':Hp) (gl:Addr),H gl=none->gl ≠ x->H' x=some (blkO C dx gl b 0)->H' gl=some (.lst [])->But x H H'->Q .non H'
theorem sc_Block:FnScope ["self","backwards"] ["self","backwards"] (defScope s_Block_init):=⟨rfl,rfl,rfl,by decide +kernel,rfl,by decide +kernel,by decide +kernel⟩
theorem ok_Block (T:Tx K mg):FnOk P w K mg base CX0 1 T.f_Block_init T.g_Block_init ["self","backwards"] (spBlock T.C_Block):=by
 refine T.d_Block.F.ok sc_Block (fun vs H Q E h=>?_) (fun cdv A outer s H vs Q E hr h=>?_)
 . obtain ⟨x,dx,b,rfl,_⟩:=h
   rfl
 . obtain ⟨x,dx,b,rfl,hp,q⟩:=h
   refine ⟨_,pss_cons (ps_fld (pv 0) (pv 1) rfl) (pss_cons (ps_fld (pv 0) pe_int rfl) (pss_one (ps_fld (pv 0) (pe_lst pa_nil) rfl))),?_⟩
   refine ⟨_,rfl,_,rfl,x,_,dx,[],rfl,hp,T.d_Block.c,T.n_Block_backwards,(by show 0 < 1000; decide),?_⟩
   refine ⟨_,rfl,x,_,dx,_,rfl,upd_same,T.d_Block.c,T.n_Block_total,(by show 1 < 1000; decide),?_⟩
   refine ⟨Nat.zero_le _,fun gl hgl=>?_⟩
   have ne:gl ≠ x:=fun z=>by rw [z,upd_same] at hgl; cases hgl
   have hgl':H gl=none:=by rw [upd_ne ne,upd_ne ne] at hgl; exact hgl
   refine ⟨_,rfl,x,_,dx,_,rfl,by rw [upd_ne (Ne.symm ne)]; exact upd_same,T.d_Block.c,T.n_Block_gates,Nat.lt_of_le_of_lt (length_putF _ _ _) (by show 2 < 1000; decide),?_⟩
   refine q _ gl hgl' ne upd_same (by rw [upd_ne ne,upd_same]) (((But.upd.trans But.upd).trans (Same.upd hgl).but).trans But.upd)
def spTake (C:Addr):Sp:=fun vs H Q _=>∃ (x gl a:Addr) (b:Blk) (ys:List V) (m:List Omega.Step),vs=[.ref x,.int (m.length:Int),.ref a]/\BlkAt C H x gl b/\H a=some (.lst ys)/\(b.2.length + m.length<=2000->GatesIn H ys m)/\(∀ z ∈ m,z.1 < 8) /\
 ∀ H',But2 x gl H H'->BlkAt C H' x gl (b.1,b.2 ++ m)->Q .non H'
theorem sc_take:FnScope ["self","total","gates"] ["self","total","gates"] (defScope s_Block_take):=⟨rfl,rfl,rfl,by decide +kernel,rfl,by decide +kernel,by decide +kernel⟩
theorem ok_take (T:Tx K mg):FnOk P w K mg base CX0 1 T.f_Block_take T.g_Block_take ["self","total","gates"] (spTake T.C_Block):=by
 refine T.d_Block_take.F.ok sc_take (fun vs H Q E h=>?_) (fun cdv A outer s H vs Q E hr h=>?_)
 . obtain ⟨x,gl,a,b,ys,m,rfl,_⟩:=h
   rfl
 . obtain ⟨x,gl,a,b,ys,m,rfl,hB,ha,hm,h8,q⟩:=h
   obtain ⟨⟨dx,o⟩,⟨xs,g1,g2,g3⟩,low⟩:=hB
   have ngx:gl ≠ x:=ne_of g1 o (by intro z; cases z)
   have nax:a ≠ x:=ne_of ha o (by intro z; cases z)
   have low':∀ z ∈ b.2 ++ m,z.1 < 8:=fun z hz=>by
    rcases List.mem_append.mp hz with hz | hz
    . exact low z hz
    . exact h8 z hz
   refine ⟨_,pss_cons (ps_fldaug (pv 0) (pv 1) in_add) (pss_one (ps_if (pt_cmpR op_le (pe_fld (pv 0) rfl) (pe_topI T.i_MOST_GATES) (nomark _))
    (pss_one (ps_expr (pe_bm PySem.F.plainAttrs_list PySem.F.slot_list_extend PySem.F.type_list_extend mt_extend (pe_fld (pv 0) rfl) (pa_cons (pv 2) pa_nil)))) pss_nil)),?_⟩
   have et:((b.2.length:Int) + (m.length:Int))=(((b.2 ++ m).length:Nat):Int):=by rw [List.length_append]; rfl
   refine ⟨_,rfl,x,_,dx,_,_,rfl,o,T.d_Block.c,T.n_Block_total,rfl,_,rfl,_,_,rfl,rfl,dx,_,o,by show 3 < 1000; decide,?_⟩
   refine ⟨_,rfl,x,_,dx,_,_,rfl,upd_same,T.d_Block.c,T.n_Block_total,rfl,?_⟩
   have o':L2.upd H x (.ins T.C_Block dx (putF "total" (.int ((b.2.length:Int) + (m.length:Int))) [("backwards",.bl b.1),("total",.int (b.2.length:Int)),("gates",.ref gl)])) x=some (blkO T.C_Block dx gl b.1 (b.2 ++ m).length):=by
    rw [upd_same,et]
    rfl
   refine ⟨_,_,rfl,rfl,_,rfl,?_⟩
   refine ite2 (fun hc=>?_) (fun hc=>?_)
   . have hle:b.2.length + m.length<=2000:=by
      have:=of_decide_eq_true hc
      omega
     have gi:=hm hle
     have gx:=g3 (by omega)
     have l1:=gi.len
     have l2:=gx.len
     refine ⟨_,rfl,x,_,dx,_,_,rfl,upd_same,T.d_Block.c,T.n_Block_gates,rfl,?_⟩
     refine ⟨.inl ⟨rfl,_,SqL.of (by rw [upd_ne ngx]; exact g1)⟩,?_⟩
     refine ⟨_,rfl,gl,a,xs,ys,rfl,rfl,by rw [upd_ne ngx]; exact g1,by rw [upd_ne nax]; exact ha,by rw [sizeLine_eq]; omega,?_⟩
     refine q _ (fun c u h1 h2 r=>by rw [upd_ne h2,upd_ne h1]; exact r) ⟨⟨dx,by rw [upd_ne (Ne.symm ngx)]; exact o'⟩,⟨xs ++ ys,upd_same,by rw [List.length_append]; omega,fun _=>?_⟩,low'⟩
     exact GatesIn.kt (paired_append gx gi) (fun c zs r=>by
      rw [upd_ne (fun z=>by rw [z,g1] at r; cases r),upd_ne (fun z=>by rw [z,o] at r; cases r)]
      exact r)
   . have hgt:¬ b.2.length + m.length<=2000:=fun z=>hc (decide_eq_true (by omega))
     refine q _ (fun c u h1 h2 r=>by rw [upd_ne h1]; exact r) ⟨⟨dx,o'⟩,⟨xs,by rw [upd_ne ngx]; exact g1,g2,fun z=>absurd z (by rw [List.length_append]; exact hgt)⟩,low'⟩
def spHand (C:Addr):Sp:=fun vs H Q _=>∃ (x gl x2 gl2:Addr) (b b2:Blk) (k:Nat),vs=[.ref x,.int (k:Int),.ref x2]/\BlkAt C H x gl b/\BlkAt C H x2 gl2 b2/\k<=1000 /\
 ∀ H',But2 x2 gl2 H H'->BlkAt C H' x2 gl2 (merged k b b2)->Q .non H'
theorem sc_hand:FnScope ["self","times","outer","total"] ["self","times","outer"] (defScope s_Block_hand_over):=⟨rfl,rfl,rfl,by decide +kernel,rfl,by decide +kernel,by decide +kernel⟩
theorem ok_hand (T:Tx K mg):FnOk P w K mg base CX0 2 T.f_Block_hand_over T.g_Block_hand_over ["self","times","outer"] (spHand T.C_Block):=by
 have G1:FnOk P w K mg base CX0 1 T.f_Block_take T.g_Block_take ["self","total","gates"] (spTake T.C_Block):=ok_take T
 have G2:FnOk P w K mg base CX0 1 T.f_undone T.g_undone ["gates"] spUndone:=ok_undone T
 refine T.d_Block_hand_over.F.ok sc_hand (fun vs H Q E h=>?_) (fun cdv A outer s H vs Q E hr h=>?_)
 . obtain ⟨x,gl,x2,gl2,b,b2,k,rfl,_⟩:=h
   rfl
 . obtain ⟨x,gl,x2,gl2,b,b2,k,rfl,hB,hB2,hk,q⟩:=h
   obtain ⟨⟨dx,o⟩,⟨xs,g1,g2,g3⟩,low⟩:=id hB
   obtain ⟨⟨dx2,o2⟩,_,_⟩:=id hB2
   refine ⟨_,pss_cons (ps_set (i:=3) sc_hand.nd rfl (Or.inl rfl) (pe_op op_mul (pe_fld (pv 0) rfl) (pv 1)))
    (pss_one (ps_if (PW.pt (pw_or (pt_cmpR op_eq (pv 3) pe_int (nomark _)) (pw_or1 (pt_cmpR op_gt (pv 3) (pe_topI T.i_MOST_GATES) (nomark _)))))
     (pss_one (ps_expr (pe_meth (pv 2) T.d_Block.c T.d_Block_take.me G1 hr T.d_Block_take.b .nil pass0 (pa_cons (pv 3) (pa_cons (pe_lst pa_nil) pa_nil)))))
     (pss_one (ps_if (pt_truth (pe_fld (pv 0) rfl) (fun _=>rfl))
      (pss_one (ps_expr (pe_meth (pv 2) T.d_Block.c T.d_Block_take.me G1 hr T.d_Block_take.b .nil pass0 (pa_cons (pv 3) (pa_cons (pe_op op_rep (pe_call G2 hr (by rfl) T.d_undone.m T.d_undone.F.kp T.d_undone.b .nil pass0 (pa_cons (pe_fld (pv 0) rfl) pa_nil)) (pv 1)) pa_nil)))))
      (pss_one (ps_expr (pe_meth (pv 2) T.d_Block.c T.d_Block_take.me G1 hr T.d_Block_take.b .nil pass0 (pa_cons (pv 3) (pa_cons (pe_op op_rep (pe_fld (pv 0) rfl) (pv 1)) pa_nil))))))))),?_⟩
   generalize hms:times_ k (if b.1=true then undoAll b.2 else b.2)=ms
   have eq_:merged k b b2=(b2.1,b2.2 ++ ms):=by rw [<- hms]; rfl
   rw [eq_] at q
   have hml:ms.length=b.2.length * k:=by
    rw [<- hms,times_length]
    split
    . unfold undoAll
      rw [List.length_map,List.length_reverse]
    . rfl
   have hml':((b.2.length:Int) * (k:Int))=(ms.length:Int):=by rw [hml]; rfl
   have low2:∀ z ∈ ms,z.1 < 8:=fun z hz=>by
    rw [<- hms] at hz
    have hz':z ∈ (if b.1=true then undoAll b.2 else b.2):=by
     unfold times_ at hz
     obtain ⟨y,hy,hzy⟩:=List.mem_flatten.mp hz
     rw [(List.mem_replicate.mp hy).2] at hzy
     exact hzy
    split at hz'
    . unfold undoAll at hz'
      obtain ⟨y,hy,rfl⟩:=List.mem_map.mp hz'
      exact undo_lt (low y (List.mem_reverse.mp hy))
    . exact low z hz'
   have fin:∀ (H1:Hp) (a:Addr) (ys:List V),Same H H1->H1 a=some (.lst ys)->(b2.2.length + ms.length<=2000->GatesIn H1 ys ms)->spTake T.C_Block [.ref x2,.int ((b.2.length:Int) * (k:Int)),.ref a] H1 (fun _ H'=>Q .non H') E0:=fun H1 a ys e ha hg=>
    ⟨x2,gl2,a,b2,ys,ms,by rw [hml'],hB2.same e,ha,hg,low2,fun H' bt ba=>q H' (fun c u h1 h2 r=>bt c u h1 h2 (e c u r)) ba⟩
   refine ⟨_,rfl,x,_,dx,_,_,rfl,o,T.d_Block.c,T.n_Block_total,rfl,_,rfl,_,_,rfl,rfl,Or.inr ⟨by omega,by omega⟩,?_⟩
   refine ⟨_,rfl,rfl,_,rfl,?_⟩
   have fst:(ms.length=0 \/ 2000 < ms.length)->∀ a,H a=none->spTake T.C_Block [.ref x2,.int ((b.2.length:Int) * (k:Int)),.ref a] (L2.upd H a (.lst [])) (fun _ H'=>Q .non H') E0:=fun hz a ha=>
    fin _ a [] (Same.upd ha) upd_same fun hle=>by
     rcases hz with z | z
     . rw [List.length_eq_zero_iff.mp z]
       exact .nil
     . omega
   refine ite2 (fun hc=>?_) (fun hc=>?_)
   . have h0:ms.length=0:=by
      have:=V.int.inj (of_decide_eq_true hc)
      rw [hml'] at this
      omega
     refine iteT ⟨_,rfl,x2,dx2,_,rfl,o2,rfl,_,rfl,Nat.zero_le _,fun a ha=>fst (.inl h0) a ha⟩
   . refine ⟨_,rfl,_,_,rfl,rfl,_,rfl,?_⟩
     refine ite2 (fun hc2=>?_) (fun hc2=>?_)
     . have h0:2000 < ms.length:=by
        have:=of_decide_eq_true hc2
        rw [hml'] at this
        omega
       refine ⟨_,rfl,x2,dx2,_,rfl,o2,rfl,_,rfl,Nat.zero_le _,fun a ha=>fst (.inr h0) a ha⟩
     . have h1:ms.length ≠ 0:=fun z=>hc (decide_eq_true (congrArg V.int (by rw [hml',z]; rfl)))
       have h2:ms.length<=2000:=Nat.le_of_not_lt fun z=>hc2 (decide_eq_true (by rw [hml']; omega))
       have hk1:1<=k:=by
        rcases Nat.eq_zero_or_pos k with z | z
        . rw [hml,z,Nat.mul_zero] at h1
          exact absurd rfl h1
        . exact z
       have hbl:b.2.length<=2000:=Nat.le_trans (by rw [hml]; exact Nat.le_mul_of_pos_right _ hk1) h2
       have gx:=g3 hbl
       have hxl:=gx.len
       have room:∀ n,n=b.2.length->n * ((k:Int)).toNat<=sizeLine:=fun n hn=>by
        rw [hn,Int.toNat_natCast,<- hml,sizeLine_eq]
        omega
       refine ⟨_,rfl,x,_,dx,_,_,rfl,o,T.d_Block.c,T.n_Block_backwards,rfl,_,rfl,?_⟩
       refine ite2 (fun hb=>?_) (fun hb=>?_)
       . refine ⟨_,rfl,x2,dx2,_,rfl,o2,rfl,_,rfl,?_⟩
         refine ⟨_,rfl,x,_,dx,_,_,rfl,o,T.d_Block.c,T.n_Block_gates,rfl,?_⟩
         refine ⟨gl,xs,b.2,rfl,g1,gx,low,hbl,fun H' a ys e ha hg=>?_⟩
         have hyl:ys.length=b.2.length:=by
          rw [hg.len]
          unfold undoAll
          rw [List.length_map,List.length_reverse]
         refine ⟨_,rfl,a,k,ys,rfl,rfl,ha,by omega,by omega,room _ hyl,fun p hp=>?_⟩
         refine fin _ p _ (e.trans (Same.upd hp)) upd_same fun _=>?_
         rw [Int.toNat_natCast,<- hms,if_pos hb]
         exact (hg.times k).kt (KT.same (Same.upd hp))
       . refine ⟨_,rfl,x2,dx2,_,rfl,o2,rfl,_,rfl,?_⟩
         refine ⟨_,rfl,x,_,dx,_,_,rfl,o,T.d_Block.c,T.n_Block_gates,rfl,?_⟩
         refine ⟨_,rfl,gl,k,xs,rfl,rfl,g1,by omega,by omega,room _ hxl,fun p hp=>?_⟩
         refine fin _ p _ (Same.upd hp) upd_same fun _=>?_
         rw [Int.toNat_natCast,<- hms,if_neg hb]
         exact (gx.times k).kt (KT.same (Same.upd hp))
end
theorem may_nil (n:Nat):mayN ((n:Int) - 1) []=fun v=>decide (v < n):=by
 funext v
 unfold mayN
 rw [show (!([]:List Nat).contains v)=true from rfl,Bool.and_true,decide_eq_decide]
 omega
theorem may_eq {n q c:Nat} {used:List Nat} (h:∀ v < n,used.contains v=(v == q || c.testBit v)):mayN ((n:Int) - 1) used=fun v=>decide (v < n) && (decide (v ≠ q) && !c.testBit v):=by
 funext v
 unfold mayN
 by_cases hv:v < n
 . rw [decide_eq_true (show (v:Int)<=(n:Int) - 1 by omega),decide_eq_true hv,h v hv,Bool.not_or]
   congr 1
   congr 1
   by_cases z:v=q
   . subst z
     simp
   . simp [z]
 . rw [decide_eq_false (show ¬ (v:Int)<=(n:Int) - 1 by omega),decide_eq_false hv]
   rfl
theorem number_may {may:Nat->Bool} {r s:Rest} {v:Nat} (h:number may r = .ok v s):may v=true:=by
 unfold number at h
 dsimp only at h
 split at h
 . cases h
 . next hc=>
   injection h with h1 h2
   subst h1
   cases e:may (numberOf (r.skip.text.takeWhile isDigit)) with
   | true=>rfl
   | false=>exact absurd (.inr (.inr e)) hc
def tl (n q b c:Nat) (r:Rest):Got Nat:=if r.skip.text.head? = some b then controls (r.text.length + 1) n q c (r.skip.on 1) else .ok c r
theorem tl_go {n q b c:Nat} {l:List Nat} {p:Nat} (h:l[skipP l p]? = some b):tl n q b c (restAt l p)=match number (fun v=>decide (v < n) && (decide (v ≠ q) && !c.testBit v)) (restAt l (skipP l p + 1)) with
 | .bad x=>.bad x
 | .ok v s=>tl n q COMMA (c + 2 ^ v) s:=by
 unfold tl
 rw [rest_skip,rest_head,if_pos h,rest_on]
 have hl:(restAt l (skipP l p + 1)).text.length < (restAt l p).text.length + 1:=by
  have:skipP l p >= p:=by unfold skipP; omega
  unfold restAt
  dsimp only
  rw [List.length_drop,List.length_drop]
  omega
 conv=>lhs; unfold controls
 cases e:number (fun v=>decide (v < n) && (decide (v ≠ q) && !c.testBit v)) (restAt l (skipP l p + 1)) with
 | bad x=>rfl
 | ok v s=>
  dsimp only
  have hs:=number_lt e
  by_cases hc:s.skip.text.head? = some COMMA
  . rw [if_pos hc,if_pos hc]
    have h1:=on_lt hc
    have h2:=skip_le s
    exact controls_fuel _ _ _ _ _ _ (by omega) (by omega)
  . rw [if_neg hc,if_neg hc]
theorem tl_stop {n q b c:Nat} {l:List Nat} {p:Nat} (h:l[skipP l p]? ≠ some b):tl n q b c (restAt l p) = .ok c (restAt l p):=by
 unfold tl
 rw [rest_skip,rest_head,if_neg h]
theorem gate_eq {n g:Nat} {l:List Nat} {p:Nat}:gateAt (l.length + 1) n g (restAt l p)=match number (fun v=>decide (v < n)) (restAt l (if (l[skipP l p]? == some QUOTE)=true then skipP l p + 1 else skipP l p)) with
 | .bad b=>.bad b
 | .ok q s=>(match tl n q CONTROLS 0 s with
  | .bad b=>.bad b
  | .ok c t=>.ok (made (l[skipP l p]? == some QUOTE) g q c) t):=by
 unfold gateAt
 dsimp only
 rw [rest_skip,rest_head,rest_on]
 have e0:(if (l[skipP l p]? == some QUOTE)=true then restAt l (skipP l p + 1) else restAt l (skipP l p))=restAt l (if (l[skipP l p]? == some QUOTE)=true then skipP l p + 1 else skipP l p):=by split <;> rfl
 rw [e0]
 generalize hP:(if (l[skipP l p]? == some QUOTE)=true then skipP l p + 1 else skipP l p)=p1
 cases e:number (fun v=>decide (v < n)) (restAt l p1) with
 | bad b=>rfl
 | ok q s=>
  dsimp only
  unfold tl
  by_cases hc:s.skip.text.head? = some CONTROLS
  . have h1:=on_lt hc
    have h2:=skip_le s
    have h3:=number_lt e
    have h4:(restAt l p1).text.length<=l.length:=by unfold restAt; dsimp only; rw [List.length_drop]; omega
    rw [if_pos hc,if_pos hc,controls_fuel (l.length + 1) (s.text.length + 1) n q 0 _ (by omega) (by omega)]
    cases controls (List.length s.text + 1) n q 0 (s.skip.on 1) <;> rfl
  . rw [if_neg hc,if_neg hc]
theorem or_pow:∀ e < 6,∀ x < 64,x.testBit e=false->x ||| 2 ^ e=x + 2 ^ e:=by decide +kernel
structure UsedOk (n q c:Nat) (used:List Nat):Prop where
 ok:GateOk n q c
 has:∀ v < n,used.contains v=(v == q || c.testBit v)
theorem UsedOk.first {n q:Nat} (hn:n<=6) (hq:q < n):UsedOk n q 0 [q]:=⟨⟨hn,hq,Nat.pow_pos (by decide),Nat.zero_testBit q⟩,fun v _=>by
 rw [Nat.zero_testBit,Bool.or_false,List.contains_cons]
 exact Bool.or_false _⟩
theorem UsedOk.more {n q c v:Nat} {used:List Nat} (h:UsedOk n q c used) (hv:v < n) (hq:v ≠ q) (hc:c.testBit v=false):UsedOk n q (c + 2 ^ v) (used ++ [v])/\c ||| 2 ^ v=c + 2 ^ v:=by
 obtain ⟨⟨hn,h1,h2,h3⟩,h4⟩:=h
 have c64:c < 64:=Nat.lt_of_lt_of_le h2 (pow_le hn)
 obtain ⟨b1,b2⟩:=bit_add v (by omega) c c64 hc
 refine ⟨⟨⟨hn,h1,bit_room n (by omega) v hv c h2 hc,?_⟩,fun x hx=>?_⟩,or_pow v (by omega) c c64 hc⟩
 . rw [b2 q (by omega),h3,Bool.or_false]
   exact beq_false_of_ne (Ne.symm hq)
 . rw [b2 x (by omega),List.contains_eq_any_beq,List.any_append,<- List.contains_eq_any_beq,h4 x hx]
   show ((x == q || c.testBit x) || (x == v || false))=_
   rw [Bool.or_false]
   cases (x == q) <;> cases (c.testBit x) <;> cases (x == v) <;> rfl
theorem iop_orN {X:Cx}:OpR X (inplaceOp .BitOr) (rN fun i j=>i ||| j):=opN_of _ iop_or bitOr_nat
theorem letters_get {c g:Nat} (h:letter c=some g):valV (keyed [(120,V.int 0),(121,.int 1),(122,.int 2),(104,.int 3),(115,.int 4),(116,.int 6)]) (Sum.inl (c:Int))=some (.int (g:Int))/\g < 8:=by
 unfold letter at h
 repeat' split at h
 all_goals cases h
 all_goals
  rename_i hc
  subst hc
  exact ⟨by decide +kernel,by decide⟩
theorem FaultE.on {CF:Addr} {H H2:Hp} {rd:Addr} {E:XK} {b:Nat} (h:FaultE CF H rd E b) (e:But rd H H2):FaultE CF H2 rd E b:=fun d H' bt hx=>h d H' (e.trans bt) hx
theorem natV_snoc (l:List Nat) (v:Nat):natV (l ++ [v])=natV l ++ [.int (v:Int)]:=by
 unfold natV
 rw [List.map_append]
 rfl
section
variable {P:Program} {w:World} {K:PySem.W.Frag} {mg:Str->Option Value} {base:Heap}
def spRGate (K:PySem.W.Frag) (C CF:Addr):Sp:=fun vs H Q E=>∃ (rd dx t:Addr) (n:Nat) (l:List Nat) (p c0 g:Nat),vs=[.ref rd]/\RdAt K C H rd dx t n l p/\p<=l.length/\l.length<=4096/\n<=6/\l[skipP l p]? = some c0/\letter c0=some g /\
 (∀ (q c:Nat) (back:Bool) (p2:Nat),gateAt (l.length + 1) n g (restAt l (skipP l p + 1)) = .ok (made back g q c) (restAt l p2)->p < p2->skipP l p2<=l.length->GateOk n q c ->
  ∀ (H':Hp) (tp:Addr),H' rd=some (rdO C dx t n (skipP l p2))->But rd H H'->H' tp=some (stepV (if back=true then undo g else g,q,c))->Q (.ref tp) H') /\
 (∀ b,gateAt (l.length + 1) n g (restAt l (skipP l p + 1)) = .bad b->FaultE CF H rd E b)
theorem sc_rgate:FnScope ["self","g","used","controls","behind","control"] ["self"] (defScope s_Reader_gate):=⟨rfl,rfl,rfl,by decide +kernel,rfl,by decide +kernel,by decide +kernel⟩
theorem ok_rgate (T:Tx K mg) (U:Dx K mg T) {CF fi:Addr} {gF:FuncData} (Z:FaultAt K mg CF fi gF) (he:mg "Exception" = none):FnOk P w K mg base (CXE P w) 4 T.f_Reader_gate T.g_Reader_gate ["self"] (spRGate K T.C_Reader CF):=by
 have G2:FnOk P w K mg base CX0 2 T.f_Reader_peek T.g_Reader_peek ["self"] (spPeek K T.C_Reader):=ok_peek T
 have G3:FnOk P w K mg base CX0 3 T.f_Reader_accept T.g_Reader_accept ["self","byte"] (spAccept K T.C_Reader):=ok_accept T
 have G4:FnOk P w K mg base (CXE P w) 3 T.f_Reader_number T.g_Reader_number ["self","most","used"] (spNumber K T.C_Reader CF):=ok_number T Z he
 refine T.d_Reader_gate.F.okE sc_rgate (fun vs H Q E h=>?_) (fun cdv A outer s H vs Q E hr h=>?_)
 . obtain ⟨rd,dx,t,n,l,p,c0,g,rfl,_⟩:=h
   rfl
 . obtain ⟨rd,dx,t,n,l,p,c0,g,rfl,hR,hp,hl,hn,hc0,hlet,q1,q2⟩:=h
   have hr2:Room 2 _:=hr.mono (by decide)
   obtain ⟨hval,hg8⟩:=letters_get hlet
   have RA:∀ (H1:Hp) j,Same H H1->RdAt K T.C_Reader (L2.upd H1 rd (rdO T.C_Reader dx t n j)) rd dx t n l j:=fun H1 j e=>(hR.same e).at_ j
   have R:∃ tR,PSs (cxOf (CXE P w) P w K mg base ["self","g","used","controls","behind","control"] "Reader.gate" (defScope s_Reader_gate) T.f_Reader_gate cdv A outer s H E) ((defBody s_Reader_gate).drop 3) tR /\
    ∀ (back:Bool) (p1:Nat),p < p1->p1<=l.length->gateAt (l.length + 1) n g (restAt l (skipP l p + 1))=(match number (fun v=>decide (v < n)) (restAt l p1) with
     | .bad b=>.bad b
     | .ok q s=>(match tl n q CONTROLS 0 s with
      | .bad b=>.bad b
      | .ok c t=>.ok (made back g q c) t)) ->
     tR { nx:=fun _ H'=>Q .non H',rt:=Q } [some (.ref rd),some (.int ((if back=true then undo g else g:Nat):Int)),none,none,none,none] (L2.upd H rd (rdO T.C_Reader dx t n p1)):=by
    refine ⟨_,pss_cons (ps_set (i:=2) sc_rgate.nd rfl (Or.inl rfl) (pe_lst (pa_cons (pe_meth (pv 0) T.d_Reader.c T.d_Reader_number.me G4 hr T.d_Reader_number.b .nil passE (pa_cons (pe_op op_sub (pe_fld (pv 0) rfl) pe_int) (pa_cons (pe_lst pa_nil) pa_nil))) pa_nil)))
     (pss_cons (ps_set (i:=3) sc_rgate.nd rfl (Or.inl rfl) pe_int)
     (pss_cons (ps_set (i:=4) sc_rgate.nd rfl (Or.inl rfl) (pe_topI T.i_QUESTION))
     (pss_cons (ps_while ownE (pt_truth (pe_meth (pv 0) T.d_Reader.c T.d_Reader_accept.me G3 hr T.d_Reader_accept.b .nil pass0 (pa_cons (pv 4) pa_nil)) (fun _=>rfl))
      (pss_cons (ps_set (i:=5) sc_rgate.nd rfl (Or.inl rfl) (pe_meth (pv 0) T.d_Reader.c T.d_Reader_number.me G4 hr T.d_Reader_number.b .nil passE (pa_cons (pe_op op_sub (pe_fld (pv 0) rfl) pe_int) (pa_cons (pv 2) pa_nil))))
      (pss_cons (ps_expr (pe_bm PySem.F.plainAttrs_list PySem.F.slot_list_append PySem.F.type_list_append mt_append (pv 2) (pa_cons (pv 5) pa_nil)))
      (pss_cons (ps_aug (i:=3) sc_rgate.nd rfl (Or.inl rfl) (pe_op op_shl1 pe_int (pv 5)) iop_orN)
      (pss_one (ps_set (i:=4) sc_rgate.nd rfl (Or.inl rfl) (pe_topI T.i_COMMA)))))))
     (pss_one (ps_ret (pe_tup (pa_cons (pv 1) (pa_cons (pe_ix ix_list (pv 2) pe_int (fun _ _=>rfl)) (pa_cons (pv 3) pa_nil))))))))),fun back p1 hp1 hp1l hge=>?_⟩
    have R1:RdAt K T.C_Reader (L2.upd H rd (rdO T.C_Reader dx t n p1)) rd dx t n l p1:=hR.at_ p1
    refine ⟨_,rfl,rd,dx,_,rfl,R1.o,rfl,_,rfl,rd,_,dx,_,_,rfl,R1.o,T.d_Reader.c,T.n_Reader_qubits,rfl,_,_,rfl,rfl,Nat.zero_le _,fun a ha=>?_⟩
    have R2:=R1.same (Same.upd (o:=.lst []) ha)
    have B2:But rd H (L2.upd (L2.upd H rd (rdO T.C_Reader dx t n p1)) a (.lst [])):=But.upd.trans (Same.upd ha).but
    refine ⟨rd,dx,t,a,n,l,p1,_,[],rfl,R2,hp1l,upd_same,fun v p2 ev h12 h2l=>?_,fun b eb=>?_⟩
    . rw [may_nil] at ev
      refine ⟨by show 1<=sizeLine; rw [sizeLine_eq]; decide,fun u hu=>?_⟩
      have hv:v < n:=of_decide_eq_true (number_may ev)
      have R3:=(R2.at_ p2).same (Same.upd (o:=.lst [.int (v:Int)]) hu)
      have B3:=(B2.trans (But.upd (o:=rdO T.C_Reader dx t n p2))).trans (Same.upd (o:=.lst [.int (v:Int)]) hu).but
      have hu0:H u=none:=by
       cases z:H u with
       | none=>rfl
       | some o=>
        have nr:u ≠ rd:=fun z=>by rw [z,upd_same] at hu; cases hu
        rw [(B2.trans But.upd) u o nr z] at hu
        cases hu
      rw [ev] at hge
      dsimp only at hge
      refine ⟨fun m σ H'=>∃ (b c p3:Nat) (used:List Nat) (ctl:Option V),m=l.length - p3/\σ=[some (.ref rd),some (.int ((if back=true then undo g else g:Nat):Int)),some (.ref u),some (.int (c:Int)),some (.int (b:Int)),ctl] /\
       But rd H H'/\RdAt K T.C_Reader H' rd dx t n l p3/\H' u=some (.lst (natV used))/\UsedOk n v c used/\used[0]? = some v/\used.length<=p3/\p < p3/\p3<=l.length /\
       gateAt (l.length + 1) n g (restAt l (skipP l p + 1))=(match tl n v b c (restAt l p3) with
        | .bad b=>.bad b
        | .ok c t=>.ok (made back g v c) t),⟨_,63,0,p2,[v],none,rfl,rfl,B3,R3,upd_same,UsedOk.first hn hv,rfl,by show 1<=p2; omega,by omega,h2l,hge⟩,?_⟩
      rintro m σ H' ⟨b,c,p3,used,ctl,rfl,rfl,hB,hR',hu',hU,huv,hul,hp3,hp3l,hgt⟩
      have nur:u ≠ rd:=ne_of hu' hR'.o (by intro z; cases z)
      refine ⟨_,rfl,rd,dx,_,rfl,hR'.o,rfl,_,rfl,rd,dx,t,n,l,p3,b,rfl,hR',hp3l,fun hyes=>?_,fun hno=>?_⟩
      . refine ⟨_,rfl,iteT ?_⟩
        have hlt:skipP l p3 < l.length:=(List.getElem?_eq_some_iff.mp hyes).1
        have hge3:p3<=skipP l p3:=by unfold skipP; omega
        have R4:=hR'.at_ (skipP l p3 + 1)
        rw [tl_go hyes,<- may_eq hU.has] at hgt
        refine ⟨fun σ' H2=>∃ (w' p4:Nat),σ'=[some (.ref rd),some (.int ((if back=true then undo g else g:Nat):Int)),some (.ref u),some (.int ((c ||| 2 ^ w':Nat):Int)),some (.int 44),some (.int (w':Int))] /\
         H2=L2.upd (L2.upd (L2.upd H' rd (rdO T.C_Reader dx t n (skipP l p3 + 1))) rd (rdO T.C_Reader dx t n p4)) u (.lst (natV used ++ [.int (w':Int)]))/\skipP l p3 + 1 < p4/\p4<=l.length/\number (mayN ((n:Int) - 1) used) (restAt l (skipP l p3 + 1)) = .ok w' (restAt l p4),?_,?_⟩
        . rintro σ' H2 ⟨w',p4,rfl,rfl,h34,h4l,ew⟩
          have hm:=number_may ew
          rw [may_eq hU.has] at hm
          obtain ⟨m1,m2⟩:=Bool.and_eq_true_iff.mp hm
          obtain ⟨m2,m3⟩:=Bool.and_eq_true_iff.mp m2
          obtain ⟨U2,eo⟩:=hU.more (of_decide_eq_true m1) (of_decide_eq_true m2) (by rw [Bool.not_eq_true'] at m3; exact m3)
          rw [ew] at hgt
          refine ⟨l.length - p4,by omega,44,c + 2 ^ w',p4,used ++ [w'],some (.int (w':Int)),rfl,by rw [eo]; rfl,?_,⟨?_,?_⟩,?_,U2,?_,?_,by omega,h4l,hgt⟩
          . intro b o hb q
            have nb:b ≠ u:=fun z=>by rw [z,hu0] at q; cases q
            rw [upd_ne nb,upd_ne hb,upd_ne hb]
            exact hB b o hb q
          . rw [upd_ne (Ne.symm nur),upd_same]
          . exact hR.txt.butIns (fun b o hb q=>by
             have nb:b ≠ u:=fun z=>by rw [z,hu0] at q; cases q
             rw [upd_ne nb,upd_ne hb,upd_ne hb]
             exact hB b o hb q) hR.o
          . rw [upd_same,natV_snoc]
          . rw [List.getElem?_append_left (List.getElem?_eq_some_iff.mp huv).1]
            exact huv
          . rw [List.length_append]
            show used.length + 1<=p4
            omega
        . refine ⟨_,rfl,rd,dx,_,rfl,R4.o,rfl,_,rfl,rd,_,dx,_,_,rfl,R4.o,T.d_Reader.c,T.n_Reader_qubits,rfl,_,_,rfl,rfl,_,rfl,?_⟩
          refine ⟨rd,dx,t,u,n,l,skipP l p3 + 1,_,used,rfl,R4,hlt,by rw [upd_ne nur]; exact hu',fun w' p4 ew h34 h4l=>?_,fun b' eb=>?_⟩
          . refine ⟨_,rfl,.inl ⟨rfl,_,SqL.of (by rw [upd_ne nur,upd_ne nur]; exact hu')⟩,_,rfl,u,natV used,_,rfl,rfl,by rw [upd_ne nur,upd_ne nur]; exact hu',by rw [natV_length,sizeLine_eq]; omega,?_⟩
            refine ⟨_,rfl,_,rfl,w',rfl,rfl,?_,c,2 ^ w',rfl,rfl,?_⟩
            . have hm:=number_may ew
              unfold mayN at hm
              have:=of_decide_eq_true (Bool.and_eq_true_iff.mp hm).1
              omega
            . exact ⟨w',p4,rfl,rfl,h34,h4l,ew⟩
          . rw [eb] at hgt
            exact (q2 b' hgt).on (hB.trans But.upd)
      . refine ⟨_,rfl,iteF ?_⟩
        have hg0:(natV used)[0]? = some (.int (v:Int)):=by
         unfold natV
         rw [List.getElem?_map,huv]
         rfl
        rw [tl_stop hno] at hgt
        refine ⟨_,rfl,_,rfl,u,natV used,0,_,rfl,rfl,SqL.of (by rw [upd_ne nur]; exact hu'),atI_nat hg0,_,rfl,by show 3<=sizeLine; rw [sizeLine_eq]; decide,fun tp htp=>?_⟩
        refine q1 v c back p3 hgt hp3 (skipP_le hp3l) hU.ok _ tp ?_ ((hB.trans But.upd).trans (Same.upd htp).but) upd_same
        have ntr:rd ≠ tp:=fun z=>by rw [<- z,upd_same] at htp; cases htp
        rw [upd_ne ntr,upd_same]
    . rw [may_nil] at eb
      rw [eb] at hge
      exact (q2 b hge).on B2
   obtain ⟨tR,hRs,hRq⟩:=R
   refine ⟨_,pss_cons (ps_set (i:=1) sc_rgate.nd rfl (Or.inl rfl) (pe_top U.t_LETTERS (by rfl) (pe_meth0 (pv 0) T.d_Reader.c T.d_Reader_peek.me G2 hr2 T.d_Reader_peek.b .nil pass0) (fun _ _=>rfl)))
    (pss_cons (ps_fldaug (pv 0) pe_int in_add)
    (pss_cons (ps_if (pt_truth (pe_meth (pv 0) T.d_Reader.c T.d_Reader_accept.me G3 hr T.d_Reader_accept.b .nil pass0 (pa_cons (pe_topI T.i_QUOTE) pa_nil)) (fun _=>rfl))
     (pss_one (ps_set (i:=1) sc_rgate.nd rfl (Or.inl rfl) (pe_ix ix_tup (pe_glob (v:=.ref T.a_UNDOING) (by rfl) T.t_UNDOING.m rfl) (pv 1) (fun _ _=>rfl)))) pss_nil)
    hRs)),?_⟩
   have hs0:skipP l p < l.length:=(List.getElem?_eq_some_iff.mp hc0).1
   have hps:p<=skipP l p:=by unfold skipP; omega
   have R1:=hR.at_ (skipP l p)
   have R2:=hR.at_ (skipP l p + 1)
   refine ⟨_,rfl,rd,dx,_,rfl,hR.o,rfl,rd,dx,t,n,l,p,rfl,hR,hp,_,_,rfl,by rw [byte_of hc0]; exact hval,?_⟩
   refine ⟨_,rfl,rd,_,dx,_,_,rfl,R1.o,T.d_Reader.c,T.n_Reader_at,rfl,_,_,rfl,rfl,_,_,R1.o,by show 3 < 1000; decide,?_⟩
   have eH:L2.upd (L2.upd H rd (rdO T.C_Reader dx t n (skipP l p))) rd (.ins T.C_Reader dx (putF "at" (.int (((skipP l p:Nat):Int) + 1)) [("text",.ref t),("qubits",.int (n:Int)),("at",.int ((skipP l p:Nat):Int))]))=L2.upd H rd (rdO T.C_Reader dx t n (skipP l p + 1)):=upd_upd
   rw [eH]
   have hge:=gate_eq (n:=n) (g:=g) (l:=l) (p:=skipP l p + 1)
   refine ⟨_,rfl,rd,dx,_,rfl,R2.o,rfl,rd,dx,t,n,l,skipP l p + 1,39,rfl,R2,hs0,fun hyes=>?_,fun hno=>?_⟩
   . have eb:(l[skipP l (skipP l p + 1)]? == some QUOTE)=true:=by rw [hyes]; rfl
     rw [eb] at hge
     have hlt:=(List.getElem?_eq_some_iff.mp hyes).1
     have h2:skipP l p + 1<=skipP l (skipP l p + 1):=by unfold skipP; omega
     refine ⟨_,rfl,iteT ⟨_,rfl,T.a_UNDOING,_,_,_,rfl,rfl,T.t_UNDOING.at_ _,undoing_get hg8,?_⟩⟩
     have:=hRq true (skipP l (skipP l p + 1) + 1) (by omega) hlt hge
     rw [<- upd_upd (o:=rdO T.C_Reader dx t n (skipP l p + 1))] at this
     exact this
   . have eb:(l[skipP l (skipP l p + 1)]? == some QUOTE)=false:=beq_false_of_ne hno
     rw [eb] at hge
     have h2:skipP l p + 1<=skipP l (skipP l p + 1):=by unfold skipP; omega
     refine ⟨_,rfl,iteF ?_⟩
     have:=hRq false (skipP l (skipP l p + 1)) (by omega) (skipP_le hs0) hge
     rw [<- upd_upd (o:=rdO T.C_Reader dx t n (skipP l p + 1))] at this
     exact this
end
abbrev AA:=Addr × Addr
structure StkAt (CB:Addr) (H0 H:Hp) (bl:Addr) (xs:List AA) (bs:List Blk):Prop where
 lst:H bl=some (.lst (xs.reverse.map fun x=>V.ref x.1))
 all:Paired (fun (x:AA) (b:Blk)=>BlkAt CB H x.1 x.2 b) xs bs
 nd1:(xs.map (·.1)).Nodup
 nd2:(xs.map (·.2)).Nodup
 nb:∀ x ∈ xs,x.2 ≠ bl
 new:∀ x ∈ xs,H0 x.1=none/\H0 x.2=none
 newb:H0 bl=none
 few:bs.length<=17
structure Rdg (K:PySem.W.Frag) (C CB:Addr) (H0 H:Hp) (rd dx t bl:Addr) (n:Nat) (l:List Nat) (p:Nat) (xs:List AA) (bs:List Blk):Prop where
 same:Same H0 H
 rdr:RdAt K C H rd dx t n l p
 newr:H0 rd=none
 old:SqL K H0 t (natV l)
 stk:StkAt CB H0 H bl xs bs
 hp:p<=l.length
theorem BlkAt.ins {C:Addr} {H:Hp} {x gl:Addr} {b:Blk} (h:BlkAt C H x gl b) {a:Addr} {xs:List V} (e:H a=some (.lst xs)):x ≠ a:=by
 obtain ⟨dx,o⟩:=h.o
 exact ne_of o e (by intro z; cases z)
theorem BlkAt.nrd {C CR:Addr} {H:Hp} {x gl:Addr} {b:Blk} (h:BlkAt C H x gl b) {rd dx t:Addr} {n p:Nat} (e:H rd=some (rdO CR dx t n p)):x ≠ rd/\gl ≠ rd:=by
 obtain ⟨dx',o⟩:=h.o
 obtain ⟨xs,g,_⟩:=h.g
 refine ⟨ne_of o e ?_,ne_of g e (by intro z; cases z)⟩
 intro z
 injection z with _ _ z
 injection z with z _
 injection z with z _
 exact absurd z (by decide)
theorem BlkAt.but {C:Addr} {H H':Hp} {x gl a:Addr} {b:Blk} (h:BlkAt C H x gl b) (e:But a H H') (n1:x ≠ a) (n2:gl ≠ a) (nt:∀ xs,H a ≠ some (.tup xs)):BlkAt C H' x gl b:=by
 obtain ⟨⟨dx,o⟩,⟨xs,g1,g2,g3⟩,l⟩:=h
 exact ⟨⟨dx,e _ _ n1 o⟩,⟨xs,e _ _ n2 g1,g2,fun z=>(g3 z).kt (KT.but e nt)⟩,l⟩
theorem paired_mem {α β:Type} {F G:α->β->Prop}:∀ {xs:List α} {l:List β},Paired F xs l->(∀ x b,x ∈ xs->F x b->G x b)->Paired G xs l
 | _,_,.nil,_=>.nil
 | _,_,.cons r t,h=>.cons (h _ _ List.mem_cons_self r) (paired_mem t fun x b hx=>h x b (List.mem_cons_of_mem _ hx))
theorem paired_left {α β:Type} {F:α->β->Prop} {G:α->Prop}:∀ {xs:List α} {l:List β},Paired F xs l->(∀ x b,F x b->G x)->∀ x ∈ xs,G x
 | _,_,.nil,_,x,hx=>by cases hx
 | _,_,.cons r t,h,x,hx=>by
  rcases List.mem_cons.mp hx with e | hx
  . rw [e]; exact h _ _ r
  . exact paired_left t h x hx
section
variable {K:PySem.W.Frag} {C CB:Addr} {H0 H H':Hp} {rd dx t bl:Addr} {n:Nat} {l:List Nat} {p p':Nat} {xs:List AA} {bs:List Blk}
theorem Rdg.nbl (h:Rdg K C CB H0 H rd dx t bl n l p xs bs):bl ≠ rd:=ne_of h.stk.lst h.rdr.o (by intro z; cases z)
theorem Rdg.on (h:Rdg K C CB H0 H rd dx t bl n l p xs bs) (e:But rd H H') (o:H' rd=some (rdO C dx t n p')) (hp:p'<=l.length):Rdg K C CB H0 H' rd dx t bl n l p' xs bs:=by
 have nt:∀ zs,H rd ≠ some (.tup zs):=fun zs z=>by rw [h.rdr.o] at z; cases z
 refine ⟨fun b u q=>e b u (ne_of_none q h.newr) (h.same b u q),⟨o,h.rdr.txt.butIns e h.rdr.o⟩,h.newr,h.old,⟨e _ _ h.nbl h.stk.lst,?_,h.stk.nd1,h.stk.nd2,h.stk.nb,h.stk.new,h.stk.newb,h.stk.few⟩,hp⟩
 exact Paired.mapP h.stk.all fun x b q=>q.but e (q.nrd h.rdr.o).1 (q.nrd h.rdr.o).2 nt
theorem Rdg.move (h:Rdg K C CB H0 H rd dx t bl n l p xs bs) (hp:p'<=l.length):Rdg K C CB H0 (L2.upd H rd (rdO C dx t n p')) rd dx t bl n l p' xs bs:=h.on But.upd upd_same hp
theorem Rdg.grow (h:Rdg K C CB H0 H rd dx t bl n l p xs bs) (e:Same H H'):Rdg K C CB H0 H' rd dx t bl n l p xs bs:=h.on e.but (e _ _ h.rdr.o) h.hp
theorem Rdg.push {x gl:Addr} {b:Blk} (h:Rdg K C CB H0 H rd dx t bl n l p xs bs) (e:Same H H') (nx:H x=none) (ng:H gl=none) (hb:BlkAt CB H' x gl b) (hf:bs.length<=16) :
 Rdg K C CB H0 (L2.upd H' bl (.lst ((xs.reverse.map fun x=>V.ref x.1) ++ [.ref x]))) rd dx t bl n l p ((x,gl) :: xs) (b :: bs):=by
 have h':=h.grow e
 have nbl:∀ a,H a=none->a ≠ bl:=fun a ha z=>by rw [z,h.stk.lst] at ha; cases ha
 have h0:∀ a,H a=none->H0 a=none:=fun a ha=>by
  cases z:H0 a with
  | none=>rfl
  | some o=>rw [h.same a o z] at ha; cases ha
 have nt:∀ zs,H' bl ≠ some (.tup zs):=fun zs z=>by rw [h'.stk.lst] at z; cases z
 refine ⟨fun c u q=>?_,⟨by rw [upd_ne (Ne.symm h.nbl)]; exact h'.rdr.o,?_⟩,h.newr,h.old,⟨?_,.cons ?_ ?_,?_,?_,?_,?_,h.stk.newb,?_⟩,h.hp⟩
 . rw [upd_ne (ne_of_none q h.stk.newb)]
   exact h'.same c u q
 . exact Same.seq (fun c u q=>by
    rw [upd_ne (ne_of_none q h.stk.newb)]
    exact h'.same c u q) h.old
 . rw [upd_same,List.reverse_cons,List.map_append]
   rfl
 . exact hb.but But.upd (nbl x nx) (nbl gl ng) nt
 . exact paired_mem h'.stk.all fun y c hy q=>q.but But.upd (q.ins h'.stk.lst) (h.stk.nb y hy) nt
 . refine List.nodup_cons.mpr ⟨fun z=>?_,h.stk.nd1⟩
   obtain ⟨y,hy,e1⟩:=List.mem_map.mp z
   have:H y.1 ≠ none:=paired_left (G:=fun y=>H y.1 ≠ none) h.stk.all (fun y c q=>by obtain ⟨d,o⟩:=q.o; rw [o]; exact fun z=>nomatch z) y hy
   exact this (by rw [e1]; exact nx)
 . refine List.nodup_cons.mpr ⟨fun z=>?_,h.stk.nd2⟩
   obtain ⟨y,hy,e1⟩:=List.mem_map.mp z
   have:H y.2 ≠ none:=paired_left (G:=fun y=>H y.2 ≠ none) h.stk.all (fun y c q=>by obtain ⟨d,o,_⟩:=q.g; rw [o]; exact fun z=>nomatch z) y hy
   exact this (by rw [e1]; exact ng)
 . intro y hy
   rcases List.mem_cons.mp hy with rfl | hy
   . exact nbl gl ng
   . exact h.stk.nb y hy
 . intro y hy
   rcases List.mem_cons.mp hy with rfl | hy
   . exact ⟨h0 x nx,h0 gl ng⟩
   . exact h.stk.new y hy
 . show bs.length + 1<=17
   omega
end
def FaultS (CF:Addr) (H0:Hp) (E:XK) (b:Nat):Prop:=∀ (d:Addr) (H':Hp),Same H0 H'->H' d=some (.xd [("place",.int (b:Int))])->E (.ref CF) (some d) H'
theorem FaultS.at_ {CF:Addr} {H0 H:Hp} {rd:Addr} {E:XK} {b:Nat} (h:FaultS CF H0 E b) (e:Same H0 H) (n:H0 rd=none):FaultE CF H rd E b:=fun d H' bt hx=>h d H' (fun c u q=>bt c u (ne_of_none q n) (e c u q)) hx
theorem FaultS.to {CF:Addr} {H0 H:Hp} {E:XK} {b:Nat} (h:FaultS CF H0 E b) (e:Same H0 H):∀ d,H d=none->E (.ref CF) (some d) (L2.upd H d (.xd [("place",.int (b:Int))])):=fun d hd=>h d _ (e.trans (Same.upd hd)) upd_same
theorem skipP_twice (l:List Nat) (p:Nat):skipP l (skipP l p)=skipP l p:=by
 have:=skip_skip (restAt l p)
 rw [rest_skip,rest_skip] at this
 exact congrArg Rest.at_ this
section
variable {n:Nat} {l:List Nat} {p:Nat} {top:Blk} {stk:List Blk} {bk:Bool}
theorem ms_tilde (h:l[skipP l p]? = some TILDE):mstep n ⟨.item,top,stk,restAt l p⟩ = .inl ⟨.blk true,top,stk,restAt l (skipP l (skipP l p + 1))⟩:=by
 unfold mstep
 dsimp only
 rw [rest_skip,rest_head,if_pos h,rest_on,rest_skip]
theorem ms_open (h:l[skipP l p]? = some OPEN):mstep n ⟨.item,top,stk,restAt l p⟩ = .inl ⟨.blk false,top,stk,restAt l (skipP l p)⟩:=by
 unfold mstep
 dsimp only
 rw [rest_skip,rest_head,if_neg (by rw [h]; decide),if_pos h]
theorem ms_blk_bad (h:l[p]? ≠ some OPEN \/ 16<=stk.length):mstep n ⟨.blk bk,top,stk,restAt l p⟩ = .inr (.fault p):=by
 unfold mstep
 dsimp only
 rw [rest_head]
 exact if_pos h
theorem ms_blk (h:l[p]? = some OPEN) (h2:¬ 16<=stk.length):mstep n ⟨.blk bk,top,stk,restAt l p⟩ = .inl ⟨.item,(bk,[]),top :: stk,restAt l (p + 1)⟩:=by
 unfold mstep
 dsimp only
 rw [rest_head,if_neg (by rintro (z | z); exact z h; exact h2 z),rest_on]
end
section
variable {P:Program} {w:World} {K:PySem.W.Frag} {mg:Str->Option Value} {base:Heap}
def spBegun (K:PySem.W.Frag) (C CB CF:Addr):Sp:=fun vs H Q E=>∃ (H0:Hp) (rd dx t bl:Addr) (n:Nat) (l:List Nat) (p:Nat) (xs:List AA) (top:Blk) (stk:List Blk) (R:Res),vs=[.ref rd,.ref bl]/\Rdg K C CB H0 H rd dx t bl n l p xs (top :: stk)/\Runs n ⟨.item,top,stk,restAt l p⟩ R /\
 (∀ (H':Hp) (p':Nat) (xs':List AA) (bk:Bool),p < p'->Rdg K C CB H0 H' rd dx t bl n l p' xs' ((bk,[]) :: top :: stk)->Runs n ⟨.item,(bk,[]),top :: stk,restAt l p'⟩ R->Q (.bl true) H') /\
 (l[skipP l p]? ≠ some TILDE->l[skipP l p]? ≠ some OPEN->Q (.bl false) (L2.upd H rd (rdO C dx t n (skipP l p))))/\(∀ b,R = .fault b->FaultS CF H0 E b)
theorem sc_begun:FnScope ["reader","blocks","backwards"] ["reader","blocks"] (defScope s_block_begun):=⟨rfl,rfl,rfl,by decide +kernel,rfl,by decide +kernel,by decide +kernel⟩
theorem ok_begun (T:Tx K mg) {CF fi:Addr} {gF:FuncData} (Z:FaultAt K mg CF fi gF) (he:mg "Exception" = none):FnOk P w K mg base (CXE P w) 4 T.f_block_begun T.g_block_begun ["reader","blocks"] (spBegun K T.C_Reader T.C_Block CF):=by
 have G0:FnOk P w K mg base CX0 1 fi gF ["self","place"] (spFault CF):=ok_Fault Z he
 have G1:FnOk P w K mg base CX0 1 T.f_Block_init T.g_Block_init ["self","backwards"] (spBlock T.C_Block):=ok_Block T
 have G2:FnOk P w K mg base CX0 2 T.f_Reader_peek T.g_Reader_peek ["self"] (spPeek K T.C_Reader):=ok_peek T
 have G3:FnOk P w K mg base CX0 3 T.f_Reader_accept T.g_Reader_accept ["self","byte"] (spAccept K T.C_Reader):=ok_accept T
 refine T.d_block_begun.F.okE sc_begun (fun vs H Q E h=>?_) (fun cdv A outer s H vs Q E hr h=>?_)
 . obtain ⟨H0,rd,dx,t,bl,n,l,p,xs,top,stk,R,rfl,_⟩:=h
   rfl
 . obtain ⟨H0,rd,dx,t,bl,n,l,p,xs,top,stk,R,rfl,hG,hRun,q1,q2,q3⟩:=h
   have hr2:Room 2 _:=hr.mono (by decide)
   have Rs:∃ tR,PSs (cxOf (CXE P w) P w K mg base ["reader","blocks","backwards"] "block_begun" (defScope s_block_begun) T.f_block_begun cdv A outer s H E) ((defBody s_block_begun).drop 1) tR /\
    ∀ (bk:Bool) (p1:Nat),p<=p1->p1<=l.length->skipP l p<=skipP l p1->(l[skipP l p1]? ≠ some OPEN->bk=false->skipP l p1=skipP l p/\l[skipP l p]? ≠ some TILDE)->((bk=true \/ l[skipP l p1]? = some OPEN)->Runs n ⟨.blk bk,top,stk,restAt l (skipP l p1)⟩ R) ->
     tR { nx:=fun _ H'=>Q .non H',rt:=Q } [some (.ref rd),some (.ref bl),some (.bl bk)] (L2.upd H rd (rdO T.C_Reader dx t n p1)):=by
    refine ⟨_,pss_cons (ps_if (pt_cmpR op_ne (pe_meth0 (pv 0) T.d_Reader.c T.d_Reader_peek.me G2 hr2 T.d_Reader_peek.b .nil pass0) (pe_topI T.i_LEFT) (nomark _))
     (pss_cons (ps_if (pt_truth (pv 2) (fun _=>rfl)) (pss_one (ps_raiseF Z G0 hr2 (pa_cons (pe_fld (pv 0) rfl) pa_nil))) pss_nil) (pss_one (ps_ret pe_bl))) pss_nil)
     (pss_cons (ps_if (pt_cmpR op_gt (pe_callB call_len_seq (by rfl) T.b_len boot_len' (pa_cons (pv 1) pa_nil)) (pe_topI T.i_MOST_BRACKETS) (nomark _)) (pss_one (ps_raiseF Z G0 hr2 (pa_cons (pe_fld (pv 0) rfl) pa_nil))) pss_nil)
     (pss_cons (ps_expr (pe_meth (pv 0) T.d_Reader.c T.d_Reader_accept.me G3 hr T.d_Reader_accept.b .nil pass0 (pa_cons (pe_topI T.i_LEFT) pa_nil)))
     (pss_cons (ps_expr (pe_bm PySem.F.plainAttrs_list PySem.F.slot_list_append PySem.F.type_list_append mt_append (pv 1) (pa_cons (pe_make T.d_Block.made G1 hr2 (by rfl) T.d_Block.m T.d_Block.b .nil pass0 (pa_cons (pv 2) pa_nil)) pa_nil)))
     (pss_one (ps_ret pe_bl))))),fun bk p1 hp1 hp1l hmono hno hgo=>?_⟩
    have hs2l:skipP l p1<=l.length:=skipP_le hp1l
    have hs1:p1<=skipP l p1:=by unfold skipP; omega
    have G1':=hG.move (p':=p1) hp1l
    have G2':=hG.move (p':=skipP l p1) hs2l
    refine ⟨_,rfl,rd,dx,_,rfl,G1'.rdr.o,rfl,rd,dx,t,n,l,p1,rfl,G1'.rdr,hp1l,?_⟩
    rw [upd_upd]
    refine ⟨rfl,_,rfl,?_⟩
    refine ite2 (fun hc=>?_) (fun hc=>?_)
    . have hn:l[skipP l p1]? ≠ some OPEN:=fun z=>by
       rw [byte_of z] at hc
       exact absurd hc (by decide)
      refine ⟨_,rfl,_,rfl,?_⟩
      cases bk with
      | true=>
       refine iteT ⟨_,rfl,rd,_,dx,_,_,rfl,G2'.rdr.o,T.d_Reader.c,T.n_Reader_at,rfl,_,rfl,?_⟩
       exact (q3 _ ((hgo (.inl rfl)).end_ (ms_blk_bad (.inl hn)))).to G2'.same
      | false=>
       refine iteF ?_
       obtain ⟨e1,e2⟩:=hno hn rfl
       rw [e1] at hn ⊢
       exact q2 e2 hn
    . have hopen:l[skipP l p1]? = some OPEN:=by
       by_cases z:V.int (byteAt l (skipP l p1))=V.int 40
       . exact byte_some (V.int.inj z)
       . rw [decide_eq_false z] at hc
         exact absurd rfl hc
      have hrun:=hgo (.inr hopen)
      have hlen:(xs.reverse.map fun x:AA=>V.ref x.1).length=stk.length + 1:=by
       rw [List.length_map,List.length_reverse,Paired.length hG.stk.all]
       rfl
      refine ⟨_,rfl,bl,_,rfl,.inl (SqL.of G2'.stk.lst),_,_,rfl,rfl,_,rfl,?_⟩
      refine ite2 (fun hd=>?_) (fun hd=>?_)
      . have h16:16<=stk.length:=by
         have:=of_decide_eq_true hd
         rw [hlen] at this
         omega
        refine ⟨_,rfl,rd,_,dx,_,_,rfl,G2'.rdr.o,T.d_Reader.c,T.n_Reader_at,rfl,_,rfl,?_⟩
        exact (q3 _ (hrun.end_ (ms_blk_bad (.inr h16)))).to G2'.same
      . have h16:¬ 16<=stk.length:=fun z=>hd (decide_eq_true (by rw [hlen]; omega))
        refine ⟨_,rfl,rd,dx,_,rfl,G2'.rdr.o,rfl,rd,dx,t,n,l,skipP l p1,40,rfl,G2'.rdr,hs2l,fun hyes=>?_,fun hnot=>absurd (by rw [skipP_twice]; exact hopen) hnot⟩
        rw [skipP_twice,upd_upd]
        have hlt:=(List.getElem?_eq_some_iff.mp hopen).1
        have G3':=hG.move (p':=skipP l p1 + 1) hlt
        refine ⟨_,rfl,.inl ⟨rfl,_,SqL.of G3'.stk.lst⟩,_,rfl,fun x dx' nx nd ne=>?_⟩
        refine ⟨x,dx',bk,rfl,upd_same,fun H3 gl hgl ngx hx hgl' bt=>⟨rfl,?_⟩⟩
        have e3:Same (L2.upd H rd (rdO T.C_Reader dx t n (skipP l p1 + 1))) H3:=Same.made nx nd fun c o r n=>bt c o n r
        have ng:L2.upd H rd (rdO T.C_Reader dx t n (skipP l p1 + 1)) gl=none:=by
         rw [upd_ne ngx] at hgl
         by_cases z:gl=dx'
         . rw [z,upd_same] at hgl
           cases hgl
         . rw [upd_ne z] at hgl
           exact hgl
        refine ⟨bl,_,_,rfl,rfl,e3 _ _ G3'.stk.lst,by rw [hlen,sizeLine_eq]; omega,?_⟩
        refine q1 _ (skipP l p1 + 1) ((x,gl) :: xs) bk (by omega) (G3'.push e3 nx ng ⟨⟨dx',hx⟩,⟨[],hgl',Nat.zero_le _,fun _=>.nil⟩,fun z hz=>by cases hz⟩ (by show stk.length + 1<=16; omega)) ?_
        exact hrun.next (ms_blk hopen h16)
   obtain ⟨tR,hRs,hRq⟩:=Rs
   refine ⟨_,pss_cons (ps_set (i:=2) sc_begun.nd rfl (Or.inl rfl) (pe_meth (pv 0) T.d_Reader.c T.d_Reader_accept.me G3 hr T.d_Reader_accept.b .nil pass0 (pa_cons (pe_topI T.i_TILDE) pa_nil))) hRs,?_⟩
   have hsl:skipP l p<=l.length:=skipP_le hG.hp
   have hs0:p<=skipP l p:=by unfold skipP; omega
   refine ⟨_,rfl,rd,dx,_,rfl,hG.rdr.o,rfl,rd,dx,t,n,l,p,126,rfl,hG.rdr,hG.hp,fun hyes=>?_,fun hnot=>?_⟩
   . have hlt:=(List.getElem?_eq_some_iff.mp hyes).1
     exact hRq true (skipP l p + 1) (by omega) hlt (by have:skipP l p + 1<=skipP l (skipP l p + 1):=by { unfold skipP; omega }; omega) (fun _ z=>by cases z) fun _=>hRun.next (ms_tilde hyes)
   . refine hRq false (skipP l p) hs0 hsl (by rw [skipP_twice]; exact Nat.le_refl _) (fun _ _=>⟨skipP_twice l p,hnot⟩) fun z=>?_
     rw [skipP_twice] at z ⊢
     rcases z with z | z
     . cases z
     . exact hRun.next (ms_open z)
end
theorem BlkAt.keep {C:Addr} {H H':Hp} {x gl:Addr} {b:Blk} (h:BlkAt C H x gl b) (k:∀ c o,c=x \/ c=gl->H c=some o->H' c=some o) (kt:KT H H'):BlkAt C H' x gl b:=by
 obtain ⟨⟨dx,o⟩,⟨xs,g1,g2,g3⟩,l⟩:=h
 exact ⟨⟨dx,k _ _ (.inl rfl) o⟩,⟨xs,k _ _ (.inr rfl) g1,g2,fun z=>(g3 z).kt kt⟩,l⟩
theorem BlkAt.apart {C:Addr} {H:Hp} {x gl x' gl':Addr} {b b':Blk} (h:BlkAt C H x gl b) (h':BlkAt C H x' gl' b'):x ≠ gl':=by
 obtain ⟨dx,o⟩:=h.o
 obtain ⟨xs,g,_⟩:=h'.g
 exact ne_of o g (by intro z; cases z)
theorem BlkAt.notup {C:Addr} {H:Hp} {x gl:Addr} {b:Blk} (h:BlkAt C H x gl b) (zs:List V):H x ≠ some (.tup zs)/\H gl ≠ some (.tup zs):=by
 obtain ⟨dx,o⟩:=h.o
 obtain ⟨xs,g,_⟩:=h.g
 exact ⟨(fun z=>by rw [o] at z; cases z),(fun z=>by rw [g] at z; cases z)⟩
section
variable {K:PySem.W.Frag} {C CB:Addr} {H0 H H':Hp} {rd dx t bl:Addr} {n:Nat} {l:List Nat} {p p':Nat} {xs:List AA} {bs:List Blk}
theorem Rdg.popped {x:AA} {b:Blk} (h:Rdg K C CB H0 H rd dx t bl n l p (x :: xs) (b :: bs)):Paired (fun (x:AA) (b:Blk)=>BlkAt CB (L2.upd H bl (.lst (xs.reverse.map fun x=>V.ref x.1))) x.1 x.2 b) (x :: xs) (b :: bs):=by
 have nt:∀ zs,H bl ≠ some (.tup zs):=fun zs z=>by rw [h.stk.lst] at z; cases z
 exact paired_mem h.stk.all fun y c hy q=>q.but But.upd (q.ins h.stk.lst) (h.stk.nb y hy) nt
theorem Rdg.merge {x x2:AA} {b b2 b':Blk} (h:Rdg K C CB H0 H rd dx t bl n l p (x :: x2 :: xs) (b :: b2 :: bs)) (e:But2 x2.1 x2.2 (L2.upd H bl (.lst ((x2 :: xs).reverse.map fun x=>V.ref x.1))) H') (hb:BlkAt CB H' x2.1 x2.2 b') :
 Rdg K C CB H0 H' rd dx t bl n l p (x2 :: xs) (b' :: bs):=by
 have hp:=h.popped
 cases hp with
 | cons r1 hp=>
 cases hp with
 | cons r2 hp=>
 have m2:x2 ∈ x :: x2 :: xs:=List.mem_cons_of_mem _ List.mem_cons_self
 have hall:=h.stk.all
 cases hall with
 | cons s1 hall=>
 cases hall with
 | cons s2 hall=>
 have n1:x2.1 ≠ bl:=s2.ins h.stk.lst
 have n2:x2.2 ≠ bl:=h.stk.nb x2 m2
 have nr:=s2.nrd h.rdr.o
 have nd1:=(List.nodup_cons.mp h.stk.nd1).2
 have nd2:=(List.nodup_cons.mp h.stk.nd2).2
 have kt:KT (L2.upd H bl (.lst ((x2 :: xs).reverse.map fun x=>V.ref x.1))) H':=fun a zs q=>e a _ (fun z=>(r2.notup zs).1 (z ▸ q)) (fun z=>(r2.notup zs).2 (z ▸ q)) q
 have go:∀ c o,c ≠ bl->c ≠ x2.1->c ≠ x2.2->H c=some o->H' c=some o:=fun c o h1 h2 h3 q=>e c o h2 h3 (by rw [upd_ne h1]; exact q)
 have nw:=h.stk.new x2 m2
 refine ⟨fun c u q=>go c u (ne_of_none q h.stk.newb) (ne_of_none q nw.1) (ne_of_none q nw.2) (h.same c u q),⟨go _ _ (Ne.symm h.nbl) (Ne.symm nr.1) (Ne.symm nr.2) h.rdr.o,Same.seq (fun c u q=>go c u (ne_of_none q h.stk.newb) (ne_of_none q nw.1) (ne_of_none q nw.2) (h.same c u q)) h.old⟩,h.newr,h.old,
  ⟨e _ _ (Ne.symm n1) (Ne.symm n2) upd_same,.cons hb ?_,nd1,nd2,fun y hy=>h.stk.nb y (List.mem_cons_of_mem _ hy),fun y hy=>h.stk.new y (List.mem_cons_of_mem _ hy),h.stk.newb,?_⟩,h.hp⟩
 . refine paired_mem hp fun y c hy q=>q.keep (fun a o ha r=>?_) kt
   have y1:y.1 ≠ x2.1:=fun z=>(List.nodup_cons.mp nd1).1 (List.mem_map.mpr ⟨y,hy,z⟩)
   have y2:y.2 ≠ x2.2:=fun z=>(List.nodup_cons.mp nd2).1 (List.mem_map.mpr ⟨y,hy,z⟩)
   rcases ha with rfl | rfl
   . exact e _ _ y1 (q.apart r2) r
   . exact e _ _ (Ne.symm (r2.apart q)) y2 r
 . have:=h.stk.few
   have e1:(b :: b2 :: bs).length=bs.length + 2:=rfl
   show bs.length + 1<=17
   omega
end
section
variable {n:Nat} {l:List Nat} {p:Nat} {top b:Blk} {stk:List Blk}
theorem ms_hat {k p4:Nat} (h:l[skipP l p]? = some CLOSE) (hh:l[skipP l (skipP l p + 1)]? = some HAT) (e:number (fun (v:Nat)=>decide (v<=1000)) (restAt l (skipP l (skipP l p + 1) + 1)) = .ok k (restAt l p4)):mstep n ⟨.after,top,b :: stk,restAt l p⟩ = .inl ⟨.after,merged k top b,stk,restAt l p4⟩:=by
 unfold mstep
 dsimp only
 rw [rest_skip,rest_head,if_pos h,rest_on,rest_skip,rest_head,if_pos hh,rest_on,e]
theorem ms_hat_bad {c:Nat} (h:l[skipP l p]? = some CLOSE) (hh:l[skipP l (skipP l p + 1)]? = some HAT) (e:number (fun (v:Nat)=>decide (v<=1000)) (restAt l (skipP l (skipP l p + 1) + 1)) = .bad c):mstep n ⟨.after,top,b :: stk,restAt l p⟩ = .inr (.fault c):=by
 unfold mstep
 dsimp only
 rw [rest_skip,rest_head,if_pos h,rest_on,rest_skip,rest_head,if_pos hh,rest_on,e]
theorem ms_close (h:l[skipP l p]? = some CLOSE) (hh:l[skipP l (skipP l p + 1)]? ≠ some HAT):mstep n ⟨.after,top,b :: stk,restAt l p⟩ = .inl ⟨.after,merged 1 top b,stk,restAt l (skipP l p + 1)⟩:=by
 unfold mstep
 dsimp only
 rw [rest_skip,rest_head,if_pos h,rest_on,rest_skip,rest_head,if_neg hh]
end
theorem may_1000:mayN 1000 []=fun (v:Nat)=>decide (v<=1000):=by
 funext v
 unfold mayN
 rw [show (!([]:List Nat).contains v)=true from rfl,Bool.and_true,decide_eq_decide]
 omega
section
variable {P:Program} {w:World} {K:PySem.W.Frag} {mg:Str->Option Value} {base:Heap}
def spClose (K:PySem.W.Frag) (C CB CF:Addr):Sp:=fun vs H Q E=>∃ (H0:Hp) (rd dx t bl:Addr) (n:Nat) (l:List Nat) (p:Nat) (xs:List AA) (top:Blk) (stk:List Blk) (R:Res),vs=[.ref rd,.ref bl]/\Rdg K C CB H0 H rd dx t bl n l p xs (top :: stk)/\Runs n ⟨.after,top,stk,restAt l p⟩ R /\
 (∀ (H':Hp) (p':Nat) (xs':List AA) (top':Blk) (stk':List Blk),p<=p'->Rdg K C CB H0 H' rd dx t bl n l p' xs' (top' :: stk')->Runs n ⟨.after,top',stk',restAt l p'⟩ R->(stk'=[] \/ l[skipP l p']? ≠ some CLOSE)->Q .non H')/\(∀ b,R = .fault b->FaultS CF H0 E b)
theorem sc_close:FnScope ["reader","blocks","times","inner"] ["reader","blocks"] (defScope s_close_blocks):=⟨rfl,rfl,rfl,by decide +kernel,rfl,by decide +kernel,by decide +kernel⟩
theorem ok_close (T:Tx K mg) {CF fi:Addr} {gF:FuncData} (Z:FaultAt K mg CF fi gF) (he:mg "Exception" = none):FnOk P w K mg base (CXE P w) 4 T.f_close_blocks T.g_close_blocks ["reader","blocks"] (spClose K T.C_Reader T.C_Block CF):=by
 have G2:FnOk P w K mg base CX0 2 T.f_Block_hand_over T.g_Block_hand_over ["self","times","outer"] (spHand T.C_Block):=ok_hand T
 have G3:FnOk P w K mg base CX0 3 T.f_Reader_accept T.g_Reader_accept ["self","byte"] (spAccept K T.C_Reader):=ok_accept T
 have G4:FnOk P w K mg base (CXE P w) 3 T.f_Reader_number T.g_Reader_number ["self","most","used"] (spNumber K T.C_Reader CF):=ok_number T Z he
 refine T.d_close_blocks.F.okE sc_close (fun vs H Q E h=>?_) (fun cdv A outer s H vs Q E hr h=>?_)
 . obtain ⟨H0,rd,dx,t,bl,n,l,p,xs,top,stk,R,rfl,_⟩:=h
   rfl
 . obtain ⟨H0,rd,dx,t,bl,n,l,p,xs,top,stk,R,rfl,hG,hRun,q1,q2⟩:=h
   have hr2:Room 2 _:=hr.mono (by decide)
   refine ⟨_,pss_one (ps_while ownE (PW.pt (pw_and (pt_cmpR op_gt (pe_callB call_len_seq (by rfl) T.b_len boot_len' (pa_cons (pv 1) pa_nil)) pe_int (nomark _))
    (pw_and1 (pt_truth (pe_meth (pv 0) T.d_Reader.c T.d_Reader_accept.me G3 hr T.d_Reader_accept.b .nil pass0 (pa_cons (pe_topI T.i_RIGHT) pa_nil)) (fun _=>rfl)))))
    (pss_cons (ps_set (i:=2) sc_close.nd rfl (Or.inl rfl) (pe_ifExp (pt_truth (pe_meth (pv 0) T.d_Reader.c T.d_Reader_accept.me G3 hr T.d_Reader_accept.b .nil pass0 (pa_cons (pe_topI T.i_CARET) pa_nil)) (fun _=>rfl))
     (pe_meth (pv 0) T.d_Reader.c T.d_Reader_number.me G4 hr T.d_Reader_number.b .nil passE (pa_cons (pe_topI T.i_MOST_TIMES) (pa_cons (pe_lst pa_nil) pa_nil))) pe_int))
    (pss_cons (ps_set (i:=3) sc_close.nd rfl (Or.inl rfl) (pe_bm0 PySem.F.plainAttrs_list PySem.F.slot_list_pop PySem.F.type_list_pop mt_pop (pv 1)))
    (pss_one (ps_expr (pe_meth (pv 3) T.d_Block.c T.d_Block_hand_over.me G2 hr2 T.d_Block_hand_over.b .nil pass0 (pa_cons (pv 2) (pa_cons (pe_ix ix_list (pv 1) (pe_un un_neg pe_int) (fun _ _=>rfl)) pa_nil))))))))
    ,?_⟩
   refine ⟨fun m σ H'=>∃ (p':Nat) (xs':List AA) (top':Blk) (stk':List Blk) (tm inn:Option V),m=l.length - p'/\σ=[some (.ref rd),some (.ref bl),tm,inn]/\p<=p'/\Rdg K T.C_Reader T.C_Block H0 H' rd dx t bl n l p' xs' (top' :: stk')/\Runs n ⟨.after,top',stk',restAt l p'⟩ R,
    ⟨_,p,xs,top,stk,none,none,rfl,rfl,Nat.le_refl _,hG,hRun⟩,?_⟩
   rintro m σ H' ⟨p',xs',top',stk',tm,inn,rfl,rfl,hpp,hG',hRun'⟩
   have hlen:(xs'.reverse.map fun x:AA=>V.ref x.1).length=stk'.length + 1:=by
    rw [List.length_map,List.length_reverse,Paired.length hG'.stk.all]
    rfl
   refine ⟨_,rfl,bl,_,rfl,.inl (SqL.of hG'.stk.lst),_,_,rfl,rfl,_,rfl,?_⟩
   refine ite2 (fun hc=>?_) (fun hc=>?_)
   . cases stk' with
     | nil=>exact absurd (of_decide_eq_true hc) (by rw [hlen]; decide)
     | cons b stk2=>
     obtain ⟨x,xs1,rfl⟩:∃ x xs1,xs'=x :: xs1:=by
      cases xs' with
      | nil=>have:=Paired.length hG'.stk.all; cases this
      | cons x xs1=>exact ⟨x,xs1,rfl⟩
     obtain ⟨x2,xs2,rfl⟩:∃ x2 xs2,xs1=x2 :: xs2:=by
      cases xs1 with
      | nil=>have:=Paired.length hG'.stk.all; cases this
      | cons x xs1=>exact ⟨x,xs1,rfl⟩
     have hge:p'<=skipP l p':=by unfold skipP; omega
     refine ⟨_,rfl,rd,dx,_,rfl,hG'.rdr.o,rfl,rd,dx,t,n,l,p',41,rfl,hG'.rdr,hG'.hp,fun hyes=>?_,fun hnot=>?_⟩
     . have hlt:=(List.getElem?_eq_some_iff.mp hyes).1
       have Ga:=hG'.move (p':=skipP l p' + 1) hlt
       refine ⟨_,rfl,iteT ?_⟩
       refine ⟨fun σ' H2=>∃ (p2:Nat) (xs3:List AA) (top3:Blk) (tm inn:Option V),σ'=[some (.ref rd),some (.ref bl),tm,inn]/\p' < p2/\Rdg K T.C_Reader T.C_Block H0 H2 rd dx t bl n l p2 xs3 (top3 :: stk2)/\Runs n ⟨.after,top3,stk2,restAt l p2⟩ R,?_,?_⟩
       . rintro σ' H2 ⟨p2,xs3,top3,tm,inn,rfl,h2,g2,r2⟩
         have:=g2.hp
         exact ⟨l.length - p2,by omega,p2,xs3,top3,stk2,tm,inn,rfl,rfl,by omega,g2,r2⟩
       . have fin:∀ (H5:Hp) (p5 k:Nat) (inn:Option V),p' < p5->k<=1000->Rdg K T.C_Reader T.C_Block H0 H5 rd dx t bl n l p5 (x :: x2 :: xs2) (top' :: b :: stk2)->Runs n ⟨.after,merged k top' b,stk2,restAt l p5⟩ R ->
          (tSeq (tAsg (tBM0 K "list" rPop (tVar 1)) (gName 3)) (tDrop (tMeth T.C_Block "hand_over" (spHand T.C_Block) [] E0 (tVar 3) (tCons (tVar 2) (tCons (tOp (rIxL K) (tVar 1) (tUn (rU fun i=>.int (-i)) (tC (.int 1)))) tNil))))) { nx:=fun σ' H2=>∃ (p2:Nat) (xs3:List AA) (top3:Blk) (tm inn:Option V),σ'=[some (.ref rd),some (.ref bl),tm,inn]/\p' < p2/\Rdg K T.C_Reader T.C_Block H0 H2 rd dx t bl n l p2 xs3 (top3 :: stk2)/\Runs n ⟨.after,top3,stk2,restAt l p2⟩ R,rt:=Q }
           [some (.ref rd),some (.ref bl),some (.int (k:Int)),inn] H5:=by
          intro H5 p5 k inn h5 hk g5 r5
          have el:((x :: x2 :: xs2).reverse.map fun x:AA=>V.ref x.1)=((x2 :: xs2).reverse.map fun x:AA=>V.ref x.1) ++ [.ref x.1]:=by
           rw [List.reverse_cons,List.map_append]
           rfl
          have el2:((x2 :: xs2).reverse.map fun x:AA=>V.ref x.1)=(xs2.reverse.map fun x:AA=>V.ref x.1) ++ [.ref x2.1]:=by
           rw [List.reverse_cons,List.map_append]
           rfl
          have hl5:=g5.stk.lst
          have hpop:=g5.popped
          rw [el] at hl5
          refine ⟨_,rfl,.inl ⟨rfl,_,SqL.of hl5⟩,bl,_,.ref x.1,rfl,rfl,hl5,by simp,?_⟩
          rw [List.dropLast_concat]
          cases hpop with
          | cons s1 hpop=>
          cases hpop with
          | cons s2 hpop=>
          obtain ⟨dxx,ox⟩:=s1.o
          refine ⟨_,rfl,x.1,dxx,_,rfl,ox,rfl,_,rfl,_,rfl,1,rfl,bl,_,-1,.ref x2.1,rfl,rfl,SqL.of upd_same,by rw [el2]; exact atI_last _ _,?_⟩
          exact ⟨x.1,x.2,x2.1,x2.2,top',b,k,rfl,s1,s2,hk,fun H7 bt ba=>⟨p5,x2 :: xs2,merged k top' b,_,_,rfl,h5,g5.merge bt ba,r5⟩⟩
         generalize hpa:skipP l p' + 1=pa at *
         have hpa2:pa<=skipP l pa:=by unfold skipP; omega
         have hlt':pa<=l.length:=by omega
         refine ⟨_,rfl,rd,dx,_,rfl,Ga.rdr.o,rfl,rd,dx,t,n,l,pa,94,rfl,Ga.rdr,hlt',fun hy2=>?_,fun hn2=>?_⟩
         . rw [upd_upd]
           have hlt2:=(List.getElem?_eq_some_iff.mp hy2).1
           have Gb:=hG'.move (p':=skipP l pa + 1) hlt2
           refine ⟨_,rfl,iteT ?_⟩
           refine ⟨_,rfl,rd,dx,_,rfl,Gb.rdr.o,rfl,Nat.zero_le _,fun a ha=>?_⟩
           have Gc:=Gb.grow (Same.upd (o:=.lst []) ha)
           refine ⟨rd,dx,t,a,n,l,skipP l pa + 1,1000,[],rfl,Gc.rdr,hlt2,upd_same,fun k p4 e h4 h4l=>?_,fun c e=>?_⟩
           . rw [may_1000] at e
             have hk:k<=1000:=of_decide_eq_true (number_may e)
             exact fin _ p4 k _ (by omega) hk (Gc.move h4l) (hRun'.next (ms_hat hyes (by rw [hpa]; exact hy2) (by rw [hpa]; exact e)))
           . rw [may_1000] at e
             exact (q2 c (hRun'.end_ (ms_hat_bad hyes (by rw [hpa]; exact hy2) (by rw [hpa]; exact e)))).at_ Gc.same Gc.newr
         . rw [upd_upd]
           refine ⟨_,rfl,iteF ?_⟩
           have r2:=hRun'.next (ms_close hyes (by rw [hpa]; exact hn2))
           rw [hpa] at r2
           have r3:=after_skip' r2
           rw [rest_skip] at r3
           exact fin _ (skipP l pa) 1 _ (by omega) (by decide) (hG'.move (skipP_le hlt')) r3
     . exact ⟨_,rfl,q1 _ (skipP l p') _ top' (b :: stk2) (by omega) (hG'.move (skipP_le hG'.hp)) (by have:=after_skip' hRun'; rw [rest_skip] at this; exact this) (.inr (by rw [skipP_twice]; exact hnot))⟩
   . refine iteF (q1 H' p' xs' top' stk' hpp hG' hRun' (.inl ?_))
     exact List.length_eq_zero_iff.mp (by
      rcases Nat.eq_zero_or_pos stk'.length with z | z
      . exact z
      . exact absurd (decide_eq_true (by rw [hlen]; omega)) hc)
end
section
variable {K:PySem.W.Frag} {C CB:Addr} {H0 H H':Hp} {rd dx t bl:Addr} {n:Nat} {l:List Nat} {p p':Nat} {xs:List AA} {bs:List Blk}
theorem Rdg.took {x:AA} {b b':Blk} (h:Rdg K C CB H0 H rd dx t bl n l p (x :: xs) (b :: bs)) (e:But2 x.1 x.2 H H') (hb:BlkAt CB H' x.1 x.2 b'):Rdg K C CB H0 H' rd dx t bl n l p (x :: xs) (b' :: bs):=by
 have m2:x ∈ x :: xs:=List.mem_cons_self
 have hall:=h.stk.all
 cases hall with
 | cons s2 hall=>
 have n1:x.1 ≠ bl:=s2.ins h.stk.lst
 have n2:x.2 ≠ bl:=h.stk.nb x m2
 have nr:=s2.nrd h.rdr.o
 have kt:KT H H':=fun a zs q=>e a _ (fun z=>(s2.notup zs).1 (z ▸ q)) (fun z=>(s2.notup zs).2 (z ▸ q)) q
 have nw:=h.stk.new x m2
 refine ⟨fun c u q=>e c u (ne_of_none q nw.1) (ne_of_none q nw.2) (h.same c u q),⟨e _ _ (Ne.symm nr.1) (Ne.symm nr.2) h.rdr.o,Same.seq (fun c u q=>e c u (ne_of_none q nw.1) (ne_of_none q nw.2) (h.same c u q)) h.old⟩,h.newr,h.old,
  ⟨e _ _ (Ne.symm n1) (Ne.symm n2) h.stk.lst,.cons hb ?_,h.stk.nd1,h.stk.nd2,h.stk.nb,h.stk.new,h.stk.newb,h.stk.few⟩,h.hp⟩
 refine paired_mem hall fun y c hy q=>q.keep (fun a o ha r=>?_) kt
 have y1:y.1 ≠ x.1:=fun z=>(List.nodup_cons.mp h.stk.nd1).1 (List.mem_map.mpr ⟨y,hy,z⟩)
 have y2:y.2 ≠ x.2:=fun z=>(List.nodup_cons.mp h.stk.nd2).1 (List.mem_map.mpr ⟨y,hy,z⟩)
 rcases ha with rfl | rfl
 . exact e _ _ y1 (q.apart s2) r
 . exact e _ _ (Ne.symm (s2.apart q)) y2 r
end
section
variable {n:Nat} {l:List Nat} {p:Nat} {top:Blk} {stk:List Blk}
theorem ms_semi (h:l[skipP l p]? = some SEMI):mstep n ⟨.after,top,stk,restAt l p⟩ = .inl ⟨.item,top,stk,restAt l (skipP l p + 1)⟩:=by
 unfold mstep
 dsimp only
 cases stk with
 | nil=>
  dsimp only
  rw [rest_skip,rest_head,if_pos h,rest_on]
 | cons b stk=>
  dsimp only
  rw [rest_skip,rest_head,if_neg (by rw [h]; decide),if_pos h,rest_on]
theorem rest_nil:(restAt l p).text=[] <-> l.length<=p:=by
 unfold restAt
 dsimp only
 exact List.drop_eq_nil_iff
theorem ms_fault (h:l[skipP l p]? ≠ some SEMI) (hc:stk=[] \/ l[skipP l p]? ≠ some CLOSE) (hb:skipP l p < l.length \/ stk ≠ []):mstep n ⟨.after,top,stk,restAt l p⟩ = .inr (.fault (skipP l p)):=by
 unfold mstep
 dsimp only
 cases stk with
 | nil=>
  dsimp only
  rw [rest_skip,rest_head,if_neg h,if_neg]
  . rfl
  . rw [rest_nil]
    rcases hb with z | z
    . omega
    . exact absurd rfl z
 | cons b stk=>
  dsimp only
  rw [rest_skip,rest_head,if_neg (by rcases hc with z | z; cases z; exact z),if_neg h]
  rfl
theorem ms_good (h:l.length<=skipP l p):mstep n ⟨.after,top,[],restAt l p⟩ = .inr (.good top.2):=by
 unfold mstep
 dsimp only
 rw [rest_skip,rest_head,if_neg (by rw [List.getElem?_eq_none h]; exact fun z=>nomatch z),if_pos (rest_nil.mpr h)]
theorem ms_none (h1:l[skipP l p]? ≠ some TILDE) (h2:l[skipP l p]? ≠ some OPEN) (h3:(l[skipP l p]?).bind letter=none):mstep n ⟨.item,top,stk,restAt l p⟩ = .inl ⟨.after,top,stk,restAt l (skipP l p)⟩:=by
 unfold mstep
 dsimp only
 rw [rest_skip,rest_head,if_neg h1,if_neg h2,h3]
theorem ms_gate {g:Nat} (h1:l[skipP l p]? ≠ some TILDE) (h2:l[skipP l p]? ≠ some OPEN) (h3:(l[skipP l p]?).bind letter=some g):mstep n ⟨.item,top,stk,restAt l p⟩ = match gateAt (l.length + 1) n g (restAt l (skipP l p + 1)) with
 | .bad p=>.inr (.fault p)
 | .ok a s=>.inl ⟨.after,(top.1,top.2 ++ a.steps false),stk,s⟩:=by
 unfold mstep
 dsimp only
 rw [rest_skip,rest_head,if_neg h1,if_neg h2,h3,rest_on]
 dsimp only
 have a1:(restAt l (skipP l p + 1)).text.length < (restAt l (skipP l p)).text.length + 1:=by
  unfold restAt
  dsimp only
  rw [List.length_drop,List.length_drop]
  omega
 have a2:(restAt l (skipP l p + 1)).text.length < l.length + 1:=by
  unfold restAt
  dsimp only
  (rw [List.length_drop]; omega)
 (rw [gateAt_fuel a1 a2]; try (cases gateAt (l.length + 1) n g (restAt l (skipP l p + 1)) <;> rfl))
end
theorem made_steps (back:Bool) (g q c:Nat):(made back g q c).steps false=[(if back=true then undo g else g,q,c)]:=by
 cases back <;> rfl
theorem letters_in (l:List Nat) (p:Nat):(valV (keyed [(120,V.int 0),(121,.int 1),(122,.int 2),(104,.int 3),(115,.int 4),(116,.int 6)]) (Sum.inl (byteAt l p))).isSome=((l[p]?).bind letter).isSome:=by
 unfold byteAt
 cases e:l[p]? with
 | none=>decide +kernel
 | some c=>
  dsimp only [Option.bind_some]
  cases h:letter c with
  | some g=>rw [(letters_get h).1]; rfl
  | none=>
   unfold letter at h
   have hh:c ≠ 120/\c ≠ 121/\c ≠ 122/\c ≠ 104/\c ≠ 115/\c ≠ 116:=by
    refine ⟨?_,?_,?_,?_,?_,?_⟩ <;> (intro z; subst z; simp at h)
   obtain ⟨a1,a2,a3,a4,a5,a6⟩:=hh
   have ne:∀ k:Nat,c ≠ k->decide ((Sum.inl ((k:Nat):Int):Key)=Sum.inl ((c:Nat):Int))=false:=fun k hk=>decide_eq_false fun z=>hk (by injection z with z; omega)
   unfold valV keyed
   simp only [List.map_cons,List.map_nil,List.find?_cons]
   rw [show decide ((Sum.inl (120:Int):Key)=Sum.inl ((c:Nat):Int))=false from ne 120 a1,show decide ((Sum.inl (121:Int):Key)=Sum.inl ((c:Nat):Int))=false from ne 121 a2,show decide ((Sum.inl (122:Int):Key)=Sum.inl ((c:Nat):Int))=false from ne 122 a3,
    show decide ((Sum.inl (104:Int):Key)=Sum.inl ((c:Nat):Int))=false from ne 104 a4,show decide ((Sum.inl (115:Int):Key)=Sum.inl ((c:Nat):Int))=false from ne 115 a5,show decide ((Sum.inl (116:Int):Key)=Sum.inl ((c:Nat):Int))=false from ne 116 a6]
   rfl
section
variable {P:Program} {w:World} {K:PySem.W.Frag} {mg:Str->Option Value} {base:Heap}
def spRead (K:PySem.W.Frag) (CB CF:Addr):Sp:=fun vs H Q E=>∃ (t:Addr) (n:Nat) (l:List Nat),vs=[.ref t,.int (n:Int)]/\SqL K H t (natV l)/\l.length<=4096/\n<=6 /\
 (∀ L,readRes n l = .good L->∀ (H':Hp) (x gl:Addr) (bk:Bool),Same H H'->BlkAt CB H' x gl (bk,L)->Q (.ref x) H')/\(∀ b,readRes n l = .fault b->FaultS CF H E b)
theorem sc_read:FnScope ["text","qubits","reader","blocks","reading"] ["text","qubits"] (defScope s_circuit_read):=⟨rfl,rfl,rfl,by decide +kernel,rfl,by decide +kernel,by decide +kernel⟩
theorem ok_read (T:Tx K mg) (U:Dx K mg T) {CF fi:Addr} {gF:FuncData} (Z:FaultAt K mg CF fi gF) (he:mg "Exception" = none):FnOk P w K mg base (CXE P w) 5 T.f_circuit_read T.g_circuit_read ["text","qubits"] (spRead K T.C_Block CF):=by
 have G0:FnOk P w K mg base CX0 1 fi gF ["self","place"] (spFault CF):=ok_Fault Z he
 have Gr:FnOk P w K mg base CX0 1 T.f_Reader_init T.g_Reader_init ["self","text","qubits"] (spReader T.C_Reader):=ok_Reader T
 have Gb:FnOk P w K mg base CX0 1 T.f_Block_init T.g_Block_init ["self","backwards"] (spBlock T.C_Block):=ok_Block T
 have Gt:FnOk P w K mg base CX0 1 T.f_Block_take T.g_Block_take ["self","total","gates"] (spTake T.C_Block):=ok_take T
 have Gp:FnOk P w K mg base CX0 2 T.f_Reader_peek T.g_Reader_peek ["self"] (spPeek K T.C_Reader):=ok_peek T
 have Ga:FnOk P w K mg base CX0 3 T.f_Reader_accept T.g_Reader_accept ["self","byte"] (spAccept K T.C_Reader):=ok_accept T
 have Gg:FnOk P w K mg base (CXE P w) 4 T.f_Reader_gate T.g_Reader_gate ["self"] (spRGate K T.C_Reader CF):=ok_rgate T U Z he
 have Gn:FnOk P w K mg base (CXE P w) 4 T.f_block_begun T.g_block_begun ["reader","blocks"] (spBegun K T.C_Reader T.C_Block CF):=ok_begun T Z he
 have Gc:FnOk P w K mg base (CXE P w) 4 T.f_close_blocks T.g_close_blocks ["reader","blocks"] (spClose K T.C_Reader T.C_Block CF):=ok_close T Z he
 refine T.d_circuit_read.F.okE sc_read (fun vs H Q E h=>?_) (fun cdv A outer s H vs Q E hr h=>?_)
 . obtain ⟨t,n,l,rfl,_⟩:=h
   rfl
 . obtain ⟨t,n,l,rfl,ht,hl,hn,q1,q2⟩:=h
   have hr3:Room 3 _:=hr.mono (by decide)
   have hr2:Room 2 _:=hr.mono (by decide)
   have hr1:Room 1 _:=hr.mono (by decide)
   refine ⟨_,pss_cons (ps_set (i:=2) sc_read.nd rfl (Or.inl rfl) (pe_make T.d_Reader.made Gr hr2 (by rfl) T.d_Reader.m T.d_Reader.b .nil pass0 (pa_cons (pv 0) (pa_cons (pv 1) pa_nil))))
    (pss_cons (ps_set (i:=3) sc_read.nd rfl (Or.inl rfl) (pe_lst (pa_cons (pe_make T.d_Block.made Gb hr2 (by rfl) T.d_Block.m T.d_Block.b .nil pass0 (pa_cons pe_bl pa_nil)) pa_nil)))
    (pss_cons (ps_set (i:=4) sc_read.nd rfl (Or.inl rfl) pe_bl)
    (pss_cons (ps_while ownE (pt_truth (pv 4) (fun _=>rfl))
     (pss_one (ps_if (pt_not (pt_truth (pe_call Gn hr (by rfl) T.d_block_begun.m T.d_block_begun.F.kp T.d_block_begun.b .nil passE (pa_cons (pv 2) (pa_cons (pv 3) pa_nil))) (fun _=>rfl)))
      (pss_cons (ps_if (pt_cmp (pc_topIn U.t_LETTERS (by rfl) (pe_meth0 (pv 2) T.d_Reader.c T.d_Reader_peek.me Gp hr2 T.d_Reader_peek.b .nil pass0)) (by with_unfolding_all rfl))
       (pss_one (ps_expr (pe_meth (pe_ix ix_list (pv 3) (pe_un un_neg pe_int) (fun _ _=>rfl)) T.d_Block.c T.d_Block_take.me Gt hr1 T.d_Block_take.b .nil pass0 (pa_cons pe_int (pa_cons (pe_lst (pa_cons (pe_meth0 (pv 2) T.d_Reader.c T.d_Reader_gate.me Gg hr T.d_Reader_gate.b .nil passE) pa_nil)) pa_nil))))) pss_nil)
      (pss_cons (ps_expr (pe_call Gc hr (by rfl) T.d_close_blocks.m T.d_close_blocks.F.kp T.d_close_blocks.b .nil passE (pa_cons (pv 2) (pa_cons (pv 3) pa_nil))))
      (pss_one (ps_set (i:=4) sc_read.nd rfl (Or.inl rfl) (pe_meth (pv 2) T.d_Reader.c T.d_Reader_accept.me Ga hr3 T.d_Reader_accept.b .nil pass0 (pa_cons (pe_topI T.i_SEMICOLON) pa_nil)))))) pss_nil)))
    (pss_cons (ps_if (PW.pt (pw_or (pt_cmpR op_ne (pe_meth0 (pv 2) T.d_Reader.c T.d_Reader_peek.me Gp hr2 T.d_Reader_peek.b .nil pass0) (pe_topI T.i_END) (nomark _))
     (pw_or1 (pt_cmpR op_gt (pe_callB call_len_seq (by rfl) T.b_len boot_len' (pa_cons (pv 3) pa_nil)) pe_int (nomark _)))))
     (pss_one (ps_raiseF Z G0 hr2 (pa_cons (pe_fld (pv 2) rfl) pa_nil))) pss_nil)
    (pss_one (ps_ret (pe_ix ix_list (pv 3) pe_int (fun _ _=>rfl)))))))),?_⟩
   generalize hRR:readRes n l=RR at *
   have run0:Runs n ⟨.item,(false,[]),[],restAt l 0⟩ RR:=by
    have:=readText_runs n l
    rw [hRR] at this
    exact this
   refine ⟨_,rfl,_,rfl,fun rd dx nrd ndx ner=>⟨rd,dx,t,n,rfl,upd_same,fun H1 h1 b1=>⟨rfl,?_⟩⟩⟩
   have e1:Same H H1:=Same.made nrd ndx fun c o r n=>b1 c o n r
   refine fun x dxb nx nd ne=>⟨x,dxb,false,rfl,upd_same,fun H2 gl hgl ngx hx hgl' b2=>⟨rfl,?_⟩⟩
   have e2:Same H1 H2:=Same.made nx nd fun c o r n=>b2 c o n r
   refine ⟨by show 1<=sizeLine; rw [sizeLine_eq]; decide,fun bl hbl=>?_⟩
   have e3:Same H2 (L2.upd H2 bl (.lst [.ref x])):=Same.upd hbl
   have back:∀ a,H1 a=none->H a=none:=fun a ha=>by
    cases z:H a with
    | none=>rfl
    | some o=>rw [e1 a o z] at ha; cases ha
   have ngl:H1 gl=none:=by
    rw [upd_ne ngx] at hgl
    by_cases z:gl=dxb
    . rw [z,upd_same] at hgl
      cases hgl
    . rw [upd_ne z] at hgl
      exact hgl
   have start0:Rdg K T.C_Reader T.C_Block H (L2.upd H2 bl (.lst [.ref x])) rd dx t bl n l 0 [(x,gl)] [(false,[])]:=by
    refine ⟨(e1.trans e2).trans e3,⟨e3 _ _ (e2 _ _ h1),Same.seq ((e1.trans e2).trans e3) ht⟩,nrd,ht,⟨upd_same,.cons ?_ .nil,?_,?_,?_,?_,?_,by decide⟩,Nat.zero_le _⟩
    . exact BlkAt.same (H:=H2) ⟨⟨dxb,hx⟩,⟨[],hgl',Nat.zero_le _,fun _=>.nil⟩,fun z hz=>by cases hz⟩ e3
    . simp
    . simp
    . intro y hy
      rcases List.mem_cons.mp hy with rfl | hy
      . exact fun z=>by rw [show gl=bl from z,hbl] at hgl'; cases hgl'
      . cases hy
    . intro y hy
      rcases List.mem_cons.mp hy with rfl | hy
      . exact ⟨back x nx,back gl ngl⟩
      . cases hy
    . cases z:H bl with
      | none=>rfl
      | some o=>rw [e2 _ _ (e1 _ _ z)] at hbl; cases hbl
   refine ⟨fun m σ H'=>∃ (p:Nat) (xs:List AA) (top:Blk) (stk:List Blk),Rdg K T.C_Reader T.C_Block H H' rd dx t bl n l p xs (top :: stk) /\
    ((σ=[some (.ref t),some (.int (n:Int)),some (.ref rd),some (.ref bl),some (.bl true)]/\m=l.length - p + 1/\Runs n ⟨.item,top,stk,restAt l p⟩ RR) \/
     (σ=[some (.ref t),some (.int (n:Int)),some (.ref rd),some (.ref bl),some (.bl false)]/\m=0/\Runs n ⟨.after,top,stk,restAt l p⟩ RR/\l[skipP l p]? ≠ some SEMI/\(stk=[] \/ l[skipP l p]? ≠ some CLOSE))),
    ⟨_,0,_,_,_,start0,.inl ⟨rfl,rfl,run0⟩⟩,?_⟩
   rintro m σ H' ⟨p,xs,top,stk,hG,⟨rfl,rfl,hRun⟩ | ⟨rfl,rfl,hRun,hsemi,hclose⟩⟩
   . refine ⟨_,rfl,_,rfl,iteT ?_⟩
     refine ⟨fun σ' H2=>∃ (p2:Nat) (xs:List AA) (top:Blk) (stk:List Blk),Rdg K T.C_Reader T.C_Block H H2 rd dx t bl n l p2 xs (top :: stk) /\
      ((σ'=[some (.ref t),some (.int (n:Int)),some (.ref rd),some (.ref bl),some (.bl true)]/\p < p2/\Runs n ⟨.item,top,stk,restAt l p2⟩ RR) \/
       (σ'=[some (.ref t),some (.int (n:Int)),some (.ref rd),some (.ref bl),some (.bl false)]/\Runs n ⟨.after,top,stk,restAt l p2⟩ RR/\l[skipP l p2]? ≠ some SEMI/\(stk=[] \/ l[skipP l p2]? ≠ some CLOSE))),?_,?_⟩
     . rintro σ' H2 ⟨p2,xs2,top2,stk2,g2,⟨rfl,h2,r2⟩ | ⟨rfl,r2,h3,h4⟩⟩
       . have:=g2.hp
         exact ⟨l.length - p2 + 1,by omega,p2,xs2,top2,stk2,g2,.inl ⟨rfl,rfl,r2⟩⟩
       . exact ⟨0,by omega,p2,xs2,top2,stk2,g2,.inr ⟨rfl,rfl,r2,h3,h4⟩⟩
     . refine ⟨_,rfl,_,rfl,H,rd,dx,t,bl,n,l,p,xs,top,stk,RR,rfl,hG,hRun,fun H2 p2 xs2 bk h2 g2 r2=>⟨_,rfl,iteF ⟨p2,xs2,(bk,[]),top :: stk,g2,.inl ⟨rfl,h2,r2⟩⟩⟩,fun h1 h2=>⟨_,rfl,iteT ?_⟩,q2⟩
       have hs:skipP l p<=l.length:=skipP_le hG.hp
       have hs0:p<=skipP l p:=by unfold skipP; omega
       have Gs:=hG.move (p':=skipP l p) hs
       have fin:∀ (H5:Hp) (p5:Nat) (xs5:List AA) (top5:Blk),p<=p5->Rdg K T.C_Reader T.C_Block H H5 rd dx t bl n l p5 xs5 (top5 :: stk)->Runs n ⟨.after,top5,stk,restAt l p5⟩ RR ->
        (tSeq (tDrop (tCall (spClose K T.C_Reader T.C_Block CF) [] E (tCons (tVar 2) (tCons (tVar 3) tNil)))) (tAsg (tMeth T.C_Reader "accept" (spAccept K T.C_Reader) [] E0 (tVar 2) (tCons (tC (.int 59)) tNil)) (gName 4)))
         { nx:=fun σ' H2=>∃ (p2:Nat) (xs:List AA) (top:Blk) (stk:List Blk),Rdg K T.C_Reader T.C_Block H H2 rd dx t bl n l p2 xs (top :: stk) /\
          ((σ'=[some (.ref t),some (.int (n:Int)),some (.ref rd),some (.ref bl),some (.bl true)]/\p < p2/\Runs n ⟨.item,top,stk,restAt l p2⟩ RR) \/
           (σ'=[some (.ref t),some (.int (n:Int)),some (.ref rd),some (.ref bl),some (.bl false)]/\Runs n ⟨.after,top,stk,restAt l p2⟩ RR/\l[skipP l p2]? ≠ some SEMI/\(stk=[] \/ l[skipP l p2]? ≠ some CLOSE))),rt:=Q }
         [some (.ref t),some (.int (n:Int)),some (.ref rd),some (.ref bl),some (.bl true)] H5:=by
        intro H5 p5 xs5 top5 h5 g5 r5
        refine ⟨_,rfl,_,rfl,H,rd,dx,t,bl,n,l,p5,xs5,top5,stk,RR,rfl,g5,r5,fun H6 p6 xs6 top6 stk6 h6 g6 r6 hc6=>?_,q2⟩
        have h7:p6<=skipP l p6:=by unfold skipP; omega
        refine ⟨_,rfl,rd,dx,_,rfl,g6.rdr.o,rfl,rd,dx,t,n,l,p6,59,rfl,g6.rdr,g6.hp,fun hy=>?_,fun hno=>?_⟩
        . exact ⟨skipP l p6 + 1,xs6,top6,stk6,g6.move (List.getElem?_eq_some_iff.mp hy).1,.inl ⟨rfl,by omega,r6.next (ms_semi hy)⟩⟩
        . have r7:=after_skip' r6
          rw [rest_skip] at r7
          exact ⟨skipP l p6,xs6,top6,stk6,g6.move (skipP_le g6.hp),.inr ⟨rfl,r7,by rw [skipP_twice]; exact hno,by rw [skipP_twice]; exact hc6⟩⟩
       refine ⟨_,rfl,rd,dx,_,rfl,Gs.rdr.o,rfl,rd,dx,t,n,l,skipP l p,rfl,Gs.rdr,hs,?_⟩
       rw [skipP_twice,upd_upd]
       refine ⟨_,rfl,_,rfl,?_⟩
       rw [letters_in]
       refine ite2 (fun hc=>?_) (fun hc=>?_)
       . obtain ⟨g,hg⟩:=Option.isSome_iff_exists.mp hc
         obtain ⟨c0,hc0,hlet⟩:=Option.bind_eq_some_iff.mp hg
         obtain ⟨x1,xs1,rfl⟩:∃ x1 xs1,xs=x1 :: xs1:=by
          cases xs with
          | nil=>have:=Paired.length hG.stk.all; cases this
          | cons x1 xs1=>exact ⟨x1,xs1,rfl⟩
         have el:((x1 :: xs1).reverse.map fun x:AA=>V.ref x.1)=(xs1.reverse.map fun x:AA=>V.ref x.1) ++ [.ref x1.1]:=by
          rw [List.reverse_cons,List.map_append]
          rfl
         have hall:=Gs.stk.all
         have hmg:=ms_gate (n:=n) (top:=top) (stk:=stk) h1 h2 hg
         cases hall with
         | cons sx hall=>
         obtain ⟨dxx,ox⟩:=sx.o
         refine ⟨_,rfl,1,rfl,bl,_,-1,.ref x1.1,rfl,rfl,SqL.of Gs.stk.lst,by rw [el]; exact atI_last _ _,x1.1,dxx,_,rfl,ox,rfl,?_⟩
         refine ⟨_,rfl,rd,dx,_,rfl,Gs.rdr.o,rfl,rd,dx,t,n,l,skipP l p,c0,g,rfl,Gs.rdr,hs,hl,hn,by rw [skipP_twice]; exact hc0,hlet,fun qq c bk p2 e hlt h2' hok H6 tp o6 b6 ht6=>?_,fun b e=>?_⟩
         . rw [skipP_twice] at e
           rw [e] at hmg
           dsimp only at hmg
           rw [made_steps] at hmg
           have r6:=after_skip' (hRun.next hmg)
           rw [rest_skip] at r6
           refine ⟨by show 1<=sizeLine; rw [sizeLine_eq]; decide,fun a ha=>?_⟩
           have g7:=(Gs.on b6 o6 h2').grow (Same.upd (o:=.lst [.ref tp]) ha)
           have hall7:=g7.stk.all
           cases hall7 with
           | cons sy hall7=>
           have hp2:p2<=skipP l p2:=by unfold skipP; omega
           refine ⟨x1.1,x1.2,a,top,[.ref tp],[(if bk=true then undo g else g,qq,c)],rfl,sy,upd_same,fun _=>.cons ⟨tp,rfl,Same.upd ha _ _ ht6⟩ .nil,fun z hz=>?_,fun H8 bt ba=>fin H8 (skipP l p2) _ _ (by omega) (g7.took bt ba) r6⟩
           rcases List.mem_cons.mp hz with rfl | hz
           . show (if bk=true then undo g else g) < 8
             have h8:=(letters_get hlet).2
             split
             . exact undo_lt h8
             . exact h8
           . cases hz
         . rw [skipP_twice] at e
           rw [e] at hmg
           exact (q2 b (hRun.end_ hmg)).at_ Gs.same Gs.newr
       . refine fin _ (skipP l p) xs top hs0 Gs (hRun.next (ms_none h1 h2 ?_))
         cases z:(l[skipP l p]?).bind letter with
         | none=>rfl
         | some g=>rw [z] at hc; exact absurd rfl hc
   . refine ⟨_,rfl,_,rfl,iteF ?_⟩
     have hs:skipP l p<=l.length:=skipP_le hG.hp
     have Gs:=hG.move (p':=skipP l p) hs
     have hlen:(xs.reverse.map fun x:AA=>V.ref x.1).length=stk.length + 1:=by
      rw [List.length_map,List.length_reverse,Paired.length hG.stk.all]
      rfl
     refine ⟨_,rfl,rd,dx,_,rfl,hG.rdr.o,rfl,rd,dx,t,n,l,p,rfl,hG.rdr,hG.hp,rfl,_,rfl,?_⟩
     have bad:(skipP l p < l.length \/ stk ≠ [])->∀ d,L2.upd H' rd (rdO T.C_Reader dx t n (skipP l p)) d=none->E (.ref CF) (some d) (L2.upd (L2.upd H' rd (rdO T.C_Reader dx t n (skipP l p))) d (.xd [("place",.int ((skipP l p:Nat):Int))])):=fun hb=>
      (q2 _ (hRun.end_ (ms_fault hsemi hclose hb))).to Gs.same
     refine ite2 (fun hc=>?_) (fun hc=>?_)
     . refine iteT ⟨_,rfl,rd,_,dx,_,_,rfl,Gs.rdr.o,T.d_Reader.c,T.n_Reader_at,rfl,_,rfl,bad (.inl ?_)⟩
       rcases Nat.lt_or_ge (skipP l p) l.length with z | z
       . exact z
       . have eb:byteAt l (skipP l p) = -1:=by
          unfold byteAt
          rw [List.getElem?_eq_none z]
         rw [eb] at hc
         exact absurd hc (by decide)
     . refine ⟨_,rfl,bl,_,rfl,.inl (SqL.of Gs.stk.lst),_,_,rfl,rfl,_,rfl,?_⟩
       refine ite2 (fun hd=>?_) (fun hd=>?_)
       . refine ⟨_,rfl,rd,_,dx,_,_,rfl,Gs.rdr.o,T.d_Reader.c,T.n_Reader_at,rfl,_,rfl,bad (.inr ?_)⟩
         have:=of_decide_eq_true hd
         rw [hlen] at this
         intro z
         rw [z] at this
         exact absurd this (by decide)
       . have hst:stk=[]:=List.length_eq_zero_iff.mp (by
          rcases Nat.eq_zero_or_pos stk.length with z | z
          . exact z
          . exact absurd (decide_eq_true (by rw [hlen]; omega)) hd)
         subst hst
         have hge:l.length<=skipP l p:=by
          rcases Nat.lt_or_ge (skipP l p) l.length with z | z
          . exfalso
            apply hc
            rw [byte_of (List.getElem?_eq_getElem z)]
            rw [decide_eq_false (fun y=>by have:=V.int.inj y; omega)]
            rfl
          . exact z
         have hgood:=hRun.end_ (ms_good hge)
         obtain ⟨x1,rfl⟩:∃ x1,xs=[x1]:=by
          have hlx:=Paired.length hG.stk.all
          match xs,hlx with
          | [x1],_=>exact ⟨x1,rfl⟩
         have hall:=Gs.stk.all
         cases hall with
         | cons hb _=>
          exact ⟨_,rfl,bl,_,0,.ref x1.1,rfl,rfl,SqL.of Gs.stk.lst,rfl,q1 _ hgood _ x1.1 x1.2 top.1 Gs.same hb⟩
end
end Q
end
section
namespace L2
open PySem PySem.Spec PyProof.Rows Exn PySem.W PySem.Builtin PySem.Builtin.ObjectAttr
theorem exc_get {prog:Program} {w:World} {A:Around} {E:Value->Shared->Prop} {s:Shared} {K:Frag} {C a:Addr} {ox:Obj} {od:Option Obj} {name:Str} {v:Value} {expr:Bool} {Q:Value->Shared->Prop} (X:K.In s.heap) (I:PySem.W.InstAt s.heap a ox C od)
 (ga:findIn K (.ref C) "__getattribute__" = some (some (.builtin "BaseException.__getattribute__"))) (gx:findIn K (.ref C) "__getattr__" = some none) (sb:mroIn K C (.type "BaseException")=some true)
 (hf:findObj K C od name=some (.value v)) (hv:handedIn v=true) (h:Q v { s with toks:=s.toks + 1 }):wpAny (model prog w) A (getAttr (.ref a) name expr) Q E s:=by
 have L0:=I.type (M:=model prog w)
 have L1:=looks_findIn (M:=model prog w) X ga
 have L2:=looks_findIn (M:=model prog w) X gx
 have L3:=looks_find (M:=model prog w) X I hf
 have FB:=PySem.F.attrBase_Exception
 have x0:(expr && onTheHeap (Value.builtin "BaseException.__getattribute__"))=false:=by cases expr <;> rfl
 have x1:(onTheHeap (Value.ref C) && Value.builtin "BaseException.__getattribute__" == Value.builtin "object.__getattribute__")=false:=by
  rw [show (Value.builtin "BaseException.__getattribute__" == Value.builtin "object.__getattribute__")=false from by decide +kernel]
  rfl
 have sub:Looks (model prog w) s.heap (isInstance (.ref a) (.type "BaseException")) true:=I.type.andThen (looks_mroIn X sb)
 unfold getAttr getAttrBy
 refine wpAny_bind (wpAny_mkText (wpAny_holding (wpAny_bind (L0.here (s:={ s with toks:=s.toks + 1 }) (wpAny_bind (L1.here (s:={ s with toks:=s.toks + 1 }) ?_))))))
 dsimp only
 rw [x1,if_neg Bool.false_ne_true]
 unfold getAttrByItsOwn hookBefore
 rw [if_pos (show onTheHeap (Value.ref C)=true from rfl)]
 refine wpAny_bind (L2.here (s:={ s with toks:=s.toks + 1 }) (wpAny_bind (wpAny_attempt (wpAny_holding ?_))))
 unfold callGetattribute boundAndCalled
 rw [x0,if_neg Bool.false_ne_true,FB.ga.bind]
 refine wpAny_bind (wpAny_pure ?_)
 refine wpAny_call (codeAny_call_builtin FB.ga.plain PySem.F.entry_bexc_ga (@check_slot (model prog w) _ _ _ "BaseException.__getattribute__" "BaseException" "__getattribute__" (.ref a) [.str name s.toks] [] _ (by decide +kernel) (by decide +kernel) sub (PySem.F.args_bexc_ga (.ref a) (.str name s.toks)) ?_))
 refine wpAny_bind (wpAny_pure (wpAny_bind (wpAny_pure (wpAny_bind (L0.here (s:={ s with toks:=s.toks + 1 }) (wpAny_bind (L3.here (s:={ s with toks:=s.toks + 1 }) ?_)))))))
 refine wpAny_pure ?_
 show wpAny _ _ (handedOut v) _ _ _
 rw [handedOut_of hv]
 exact wpAny_pure h
end L2
end
section
namespace L2
open PySem PySem.Spec PyProof.Rows Exn
def fxE (C x d:Addr):Heap->Prop:=fun h=>∃ vs sl,h.get? x=some ⟨.ref C,some d,.fields vs,sl⟩
theorem fxE_ok {P:Program} {w:World} {H:Hp} {h:Heap} {C x d:Addr} (e:fxE C x d h):ObjOk P w H h x (.ext (fxE C x d)):=
 ⟨e,let ⟨_,_,q⟩:=e; ⟨_,q⟩,fun _ _ ⟨vs,sl,q⟩ k=>⟨vs,sl,k _ q⟩⟩
section
variable {X:Cx} {C fi:Addr} {g:FuncData}
def tPlace (C:Addr) (ta:TE):TE:=fun σ H Q=>ta σ H fun x H1=>∃ a d y,x = .ref a/\H1 a=some (.ext (fxE C a d))/\H1 d=some (.xd [("place",y)])/\Q y H1
theorem pe_place {e:Expr} {ta:TE} {pos:Pos} (Z:FaultAt X.K X.mg C fi g) (he:PE X e ta) (hb:attributeBase e "place" X.env (eval e X.env)=eval e X.env:=by rfl):PE X (.Attribute e "place" pos) (tPlace C ta):=by
 intro pins s σ H Q I h
 refine attr_of hb (thn (he pins s σ H _ I h) fun u s1 ⟨x,H1,I1,rx,a,d,y,ex,ea,ed,q⟩=>?_)
 subst ex
 obtain rfl:u=Value.ref a:=rx
 obtain ⟨⟨vs,sl,hx⟩,_⟩:=I1.hok a _ ea
 obtain ⟨mA,ns,r⟩:=I1.hok d _ ed
 obtain ⟨od,ho,hl⟩:=lookIn_ns ns
 obtain ⟨v,hv,rv⟩:=RelO.some_of (v:=y) (o:=mA "place") (r "place")
 obtain ⟨cd,c1,c2,c3⟩:=Z.cls
 refine exc_get (ox:=⟨.ref C,some d,.fields vs,sl⟩) (od:=some od) I1.kIn ⟨hx,rfl,rfl,ho⟩ Z.ga Z.gx ?_ (PySem.W.findObj_own ?_ Z.pl rfl (by rw [hl,hv])) (handed_of rv) ⟨y,H1,I1.tok _,rv,q⟩
 . unfold PySem.W.mroIn
   rw [c1,Option.bind_some,c2]
   rfl
 . unfold PySem.W.hasDictIn
   rw [c1]
   exact c3
end
abbrev Cx.marked (X:Cx) (ea:Addr):Cx:={ X with A:=X.A.mark (some (.ref ea)),calm:=false,xe:=fun _ _=>False }
abbrev Cx.tried (X:Cx) (W:Value->Shared->Prop) (pn:List (Addr × Obj)):Cx:={ X with xe:=W,pn:=pn }
section
variable {X:Cx} {pins:List (Addr × Obj)} {σ:St} {H:Hp} {s:Shared} {ea:Addr}
theorem Inv.mark (I:Inv X pins σ H s):Inv (X.marked ea) pins σ H s:=
 ⟨⟨I.ok.mod,I.ok.kind,I.ok.glob,I.ok.blt,I.ok.above,I.ok.inj,I.ok.has,I.ok.cab,(fun z=>nomatch z),I.ok.frames,I.ok.stk,I.ok.exf,I.ok.bs,I.ok.bsz,I.ok.noex,I.ok.exfs,I.ok.funs,I.ok.frf⟩,I.os,I.bare,I.base,I.loc,I.cell,I.free,I.freeC,I.pin,I.hok,I.len⟩
theorem Inv.unmark (I:Inv (X.marked ea) pins σ H s) (ok:X.Ok):Inv X pins σ H s:=⟨ok,I.os,I.bare,I.base,I.loc,I.cell,I.free,I.freeC,I.pin,I.hok,I.len⟩
theorem Inv.try_ {W:Value->Shared->Prop} (I:Inv X pins σ H s):Inv (X.tried W (X.pn ++ pins)) [] σ H s:=
 ⟨⟨I.ok.mod,I.ok.kind,I.ok.glob,I.ok.blt,I.ok.above,I.ok.inj,I.ok.has,I.ok.cab,I.ok.hd,I.ok.frames,I.ok.stk,I.ok.exf,I.ok.bs,I.ok.bsz,I.ok.noex,I.ok.exfs,I.ok.funs,I.ok.frf⟩,I.os,I.bare,I.base,I.loc,I.cell,I.free,I.freeC,(fun p hp=>I.pin p (by simpa using hp)),I.hok,I.len⟩
theorem Inv.untry {W:Value->Shared->Prop} {pins':List (Addr × Obj)} (I:Inv (X.tried W (X.pn ++ pins)) pins' σ H s) (ok:X.Ok):Inv X pins σ H s:=
 ⟨ok,I.os,I.bare,I.base,I.loc,I.cell,I.free,I.freeC,fun p hp=>I.pin p (List.mem_append_left _ hp),I.hok,I.len⟩
def blank (X:Cx):St:=List.replicate X.N.length none
theorem blank_none {X:Cx} {i:Nat} {v:V}:(blank X)[i]? ≠ some (some v):=by
 unfold blank
 intro z
 have:=List.getElem?_eq_some_iff.mp z
 obtain ⟨h,e⟩:=this
 rw [List.getElem_replicate] at e
 cases e
theorem Inv.blank (I:Inv X pins σ H s):Inv X pins (blank X) H s:=I.weak (by unfold L2.blank; rw [List.length_replicate,I.len]) fun i v z=>absurd z blank_none
theorem Inv.relocal {h':Heap} {t':Nat} {m':Str->Option Value} (I:Inv X pins σ H s) (n:h'.Ns X.env.locals m') (sb:Heap.SameBut X.env.locals s.heap h'):Inv X pins (L2.blank X) H { s with heap:=h',toks:=t' }:=by
 have neL:∀ b o,X.s_0.heap.get? b=some o->b ≠ X.env.locals:=fun b o e=>Nat.ne_of_lt (Nat.lt_of_lt_of_le (Heap.lt_size e) I.ok.above)
 have k:∀ b,b ≠ X.env.locals->h'.get? b=s.heap.get? b:=fun b hb=>sb.2 b hb
 refine ⟨I.ok,I.os,I.bare,⟨fun b o e n0 hb hx=>(k b (neL b o e)).trans (I.base.keep b o e n0 hb hx),fun b o e n0 hb hx=>?_,I.base.free,fun b o e hx=>?_,I.base.tups,I.base.frzs,I.base.tbls⟩,⟨m',n,fun i x v _ e _=>absurd e blank_none⟩,fun x c e=>?_,I.free,I.freeC,fun p hp=>?_,fun a o e=>?_,?_⟩
 . obtain ⟨sl,q⟩:=I.base.slot b o e n0 hb hx
   exact ⟨sl,(k b (neL b o e)).trans q⟩
 . obtain ⟨o',q⟩:=I.base.there b o e hx
   exact ⟨o',(k b (neL b o e)).trans q⟩
 . obtain ⟨v,o,ho,hd⟩:=I.cell x c e
   exact ⟨v,o,(k c (I.cne x c e)).trans ho,hd⟩
 . obtain ⟨q1,q2,q3,q4,q5⟩:=I.pin p hp
   exact ⟨(k _ q3).trans q1,q2,q3,q4,q5⟩
 . refine (I.hok a o e).stay (fun b v hb q=>(k b fun z=>?_).trans q) (fun _ q=>q) fun _ _ q=>q
   rcases hb with hb | hb
   . rw [<- hb,z,I.free] at e
     cases e
   . rw [z,I.free] at hb
     cases hb
 . unfold L2.blank
   rw [List.length_replicate]
end
theorem Un.kp {fs:List Addr} {H H':Hp} {h h1 h2:Heap} {ea T:Addr} (u:Un fs [] H H' h h1) (ne:h.get? ea=none) (nT:h.get? T=none) (K:Kp fs ea T h1 h2):Un fs [] H H' h h2:=by
 have th:∀ b o,h.get? b=some o->b ≠ ea/\b ≠ T:=fun b o q=>⟨(fun z=>by rw [z,ne] at q; cases q),(fun z=>by rw [z,nT] at q; cases q)⟩
 have n0:∀ b:Addr,b ∉ ([]:List Addr):=fun b=>by simp
 refine ⟨fun b o q n hb _=>?_,fun b o q n hb _=>?_,u.free,fun b o q _=>?_,u.tups,u.frzs,u.tbls⟩
 . exact K.keep b o hb (th b o q).1 (th b o q).2 (u.keep b o q n hb (n0 b))
 . obtain ⟨sl,q1⟩:=u.slot b o q n hb (n0 b)
   obtain ⟨sl2,q2⟩:=K.slot b _ hb (th b o q).1 (th b o q).2 q1
   exact ⟨sl2,q2⟩
 . obtain ⟨o1,q1⟩:=u.there b o q (n0 b)
   by_cases hb:b ∈ fs
   . obtain ⟨sl2,q2⟩:=K.slot b _ hb (th b o q).1 (th b o q).2 q1
     exact ⟨_,q2⟩
   . exact ⟨_,K.keep b _ hb (th b o q).1 (th b o q).2 q1⟩
theorem Kp.other {fs:List Addr} {e T:Addr} {h h':Heap} (o:∀ b,b ≠ T->h'.get? b=h.get? b) (z:h'.objs.size=h.objs.size):Kp fs e T h h':=
 ⟨Nat.le_of_eq z.symm,fun b _ _ _ n q=>(o b n).trans q,fun b ob _ _ n q=>⟨ob.slots,(o b n).trans q⟩⟩
theorem Un.track {fs:List Addr} {H H':Hp} {h h1:Heap} {ea:Addr} {φ:Heap->Prop} {P:Program} {w:World} (u:Un fs [] H H' h h1) (hok:HOk P w H h) (ne:h.get? ea=none):Un fs [] H (upd H' ea (.ext φ)) h h1:=by
 have th:∀ b o,h.get? b=some o->b ≠ ea:=fun b o q z=>by rw [z,ne] at q; cases q
 have tH:∀ b o,H b=some o->b ≠ ea:=fun b o q=>let ⟨_,e⟩:=(hok b o q).there; th b _ e
 exact ⟨u.keep,u.slot,fun b o q n hx=>(upd_ne (th b o q)).trans (u.free b o q n hx),u.there,fun b xs q=>(upd_ne (tH b _ q)).trans (u.tups b xs q),fun b o v q=>(upd_ne (tH b _ q)).trans (u.frzs b o v q),fun b ps q=>by
  obtain ⟨m,e⟩:=u.tbls b ps q
  exact ⟨m,(upd_ne (tH b _ q)).trans e⟩⟩
theorem HOk.track {P:Program} {w:World} {H:Hp} {h:Heap} {ea:Addr} {φ:Heap->Prop} (hok:HOk P w H h) (n:H ea=none) (new:ObjOk P w (upd H ea (.ext φ)) h ea (.ext φ)):HOk P w (upd H ea (.ext φ)) h:=fun b o q=>by
 have ne:∀ c u,H c=some u->c ≠ ea:=fun c u r z=>by rw [z,n] at r; cases r
 by_cases hb:b=ea
 . subst hb
   rw [upd_same] at q
   cases q
   exact new
 . rw [upd_ne hb] at q
   exact (hok b o q).stay (fun _ _ _ r=>r) (fun c r=>(upd_ne (ne c _ r)).trans r) fun c xs r=>(upd_ne (ne c _ r)).trans r
section
variable {X:Cx} {body suite1 suite2:List Stmt} {b1 b2:Stmt} {x1 x2 n:Str} {i:Nat} {C1 C2:Addr} {Eb:XK} {tb t1 t2:TS} {p1 p2 q1 q2 pos:Pos}
def Ends.blank (X:Cx) (D:Ends):Ends:={ nx:=fun _ H=>D.nx (L2.blank X) H,rt:=D.rt,bk:=fun _ H=>D.bk (L2.blank X) H,ct:=fun _ H=>D.ct (L2.blank X) H }
end
section
variable {X:Cx} {body suite1 suite2:List Stmt} {b1 b2:Stmt} {x1 x2 n:Str} {i:Nat} {C1 C2:Addr} {Eb:XK} {tb t1 t2:TS} {p1 p2 q1 q2 pos:Pos}
def tTryN (X:Cx) (C2:Addr) (i:Nat) (Eb:XK) (tb t2:TS):TS:=fun D σ H=>tb D σ H/\∀ cls dx H',Eb cls dx H' ->
 cls = .ref C2/\∃ d,dx=some d/\∀ ea,H' ea=none->t2 (D.blank X) ((blank X).set i (some (.ref ea))) (upd H' ea (.ext (fxE C2 ea d)))
theorem ps_tryN (hst:X.stack=X.env :: X.outer) (hfr:X.env.frame=some X.env.locals)
 (hb:∀ (W:Value->Shared->Prop) (pn:List (Addr × Obj)),Passes (CXE X.prog X.w) (X.tried W pn) Eb->PSs (X.tried W pn) body tb)
 (g2:Gl X x2) (m2:X.mg x2=some (.ref C2))
 (k22:PySem.W.exmOne X.K (.ref C2) (.ref C2)=some true)
 (hs2:∀ ea,PSs (X.marked ea) (b2 :: suite2) t2)
 (hN:X.N.Nodup) (hi:X.N[i]? = some n) (hl:X.env.scope.names.lookup n=some .local) (hk:X.env.kindOf n=some .local)
 (d2:(x2 == ("__debug__" : Str))=false:=by decide) :
 PS X (.Try body [.ExceptHandler (some (.Name x2 p2)) (some n) (b2 :: suite2) q2] [] [] pos) (tTryN X C2 i Eb tb t2):=by
 intro pins s σ H D I h
 obtain ⟨h,hE⟩:=h
 refine wpAny_Try_except ?_
 have ok:=I.ok
 have hp:(X.env.scope.kind == .class || (X.env.scope.kind == .module && X.env.locals != X.env.globals))=false:=by rw [ok.kind]; rfl
 refine wpAny_mono (hb _ (X.pn ++ pins) (fun pins' σ' H1 s1 e s' I1 hx=>?_) [] s σ H D I.try_ h) (fun f s1 q=>?_) fun _ _ z=>z
 . -- an exception
   have J:=I1.untry ok
   obtain ⟨ea,T,cls,dx,H',rfl,hos,hg,u,hok,ne,nT,fe,fT,F,hEb⟩:=hx
   have u:Un (frs (X.env :: X.outer)) [] H1 H' s1.heap s'.heap:=hst ▸ u
   have FF:=J.frames_here hst
   have stk:∀ b ∈ frs (X.env :: X.outer),H1 b=none:=fun b hb=>J.stkFree b (hst ▸ hb)
   have FF':s'.heap.FunFrames X.base (X.env :: X.outer):=frames_kept FF fun b hb o ho=>u.any ho (stk b hb) (by simp)
   have fr':∀ b ∈ frs (X.env :: X.outer),H' b=none:=fun b hb=>by
    obtain ⟨_,o,ho,_⟩:=FF.mem hb
    exact u.free b o ho (stk b hb) (by simp)
   have th:∀ b,s'.heap.objs.size<=b->s1.heap.get? b=none:=fun b hb=>by
    cases q:s1.heap.get? b with
    | none=>rfl
    | some o=>
     obtain ⟨o',q'⟩:=u.there b o q (by simp)
     exact absurd (Heap.lt_size q') (Nat.not_lt.mpr hb)
   refine note_next (base:=X.base) (hst ▸ ok.frames) FF' hfr F fun h2 T2 hT2 F2 K2=>?_
   have u2:=u.kp ne nT K2
   have ok2:=hok.kept_but K2 fr' fe fT
   have nT2:=th T2 hT2
   have fT2:H' T2=none:=hok.fresh hT2
   refine flight_none (s:={ s' with heap:=h2 }) F2 fun h3 F3 o3 z3=>?_
   have K3:Kp (frs (X.env :: X.outer)) ea T2 h2 h3:=Kp.other o3 z3
   have u3:=u2.kp ne nT2 K3
   have ok3:=ok2.kept_but K3 fr' fe fT2
   have J3:Inv X pins σ' H' { s' with heap:=h3 }:=J.call' (s':={ s' with heap:=h3 }) hos (hst.symm ▸ u3) ok3 (ch:=[]) hg (fun b z=>absurd z (by simp))
   have M3:=J3.mark (ea:=ea)
   have LT:∀ (h':Heap) (m:Value),Fly h' ea T2 cls dx m->PySem.W.Looks (model X.prog X.w) h' (typeOf (.ref ea)) cls:=fun h' m F=>by
    obtain ⟨vs,sl,he,_⟩:=F.ex
    exact (PySem.W.Looks.ld he).andThen .now
   obtain ⟨rfl,d,rfl,q⟩:=hE cls dx H' hEb
   refine wpAny_handleBy_cons (codeAny_handlers_test (ld_glob M3 g2 m2 ?_ d2)) (by intro z; cases z)
   refine (PySem.W.exm_one J3.kIn (LT h3 _ F3) k22).here (s:={ s' with heap:=h3 }) ?_
   refine codeAny_handlers_suite_as ?_
   refine flight_none (s:={ s' with heap:=h3 }) F3 fun h4 F4 o4 z4=>?_
   have K4:Kp (frs (X.env :: X.outer)) ea T2 h3 h4:=Kp.other o4 z4
   have u4:=u3.kp ne nT2 K4
   have ok4:=ok3.kept_but K4 fr' fe fT2
   have hx4:fxE C2 ea d h4:=by
    obtain ⟨vs,sl,he,_⟩:=F4.ex
    exact ⟨vs,sl,he⟩
   have J4:Inv X pins σ' (upd H' ea (.ext (fxE C2 ea d))) { s' with heap:=h4 }:=J.call' (s':={ s' with heap:=h4 }) hos (hst.symm ▸ (u4.track J.hok ne)) (ok4.track fe (fxE_ok hx4)) (ch:=[]) hg (fun b z=>absurd z (by simp))
   refine store_ok J4.blank hN hi (.inl hl) (show RelV (.ref ea) (.ref ea) from rfl) (fun s5 I5=>?_) (.inr hl)
   refine wpAny_mono (hs2 ea pins s5 _ _ (D.blank X) I5.mark (q ea fe)) (fun f s6 r=>?_) fun _ _ z=>False.elim z
   cases f with
   | next=>
    obtain ⟨σ6,H6,I6,r⟩:=r
    obtain ⟨m6,n6,_⟩:=id I6.loc
    exact wpAny_nameGoes hk n6 hp fun h7 m7 n7 sb7=>⟨_,H6,(I6.unmark ok).relocal n7 sb7,r⟩
   | brk=>
    obtain ⟨σ6,H6,I6,r⟩:=r
    obtain ⟨m6,n6,_⟩:=id I6.loc
    exact wpAny_nameGoes hk n6 hp fun h7 m7 n7 sb7=>⟨_,H6,(I6.unmark ok).relocal n7 sb7,r⟩
   | cont=>
    obtain ⟨σ6,H6,I6,r⟩:=r
    obtain ⟨m6,n6,_⟩:=id I6.loc
    exact wpAny_nameGoes hk n6 hp fun h7 m7 n7 sb7=>⟨_,H6,(I6.unmark ok).relocal n7 sb7,r⟩
   | ret v=>
    obtain ⟨v6,σ6,H6,I6,r1,r⟩:=r
    obtain ⟨m6,n6,_⟩:=id I6.loc
    exact wpAny_nameGoes hk n6 hp fun h7 m7 n7 sb7=>⟨v6,_,H6,(I6.unmark ok).relocal n7 sb7,r1,r⟩
 . -- no exception
   cases f with
   | next=>obtain ⟨σ5,H5,I5,r⟩:=q; exact wpAny_execs_nil ⟨σ5,H5,I5.untry ok,r⟩
   | brk=>obtain ⟨σ5,H5,I5,r⟩:=q; exact ⟨σ5,H5,I5.untry ok,r⟩
   | cont=>obtain ⟨σ5,H5,I5,r⟩:=q; exact ⟨σ5,H5,I5.untry ok,r⟩
   | ret v=>obtain ⟨v5,σ5,H5,I5,r1,r⟩:=q; exact ⟨v5,σ5,H5,I5.untry ok,r1,r⟩
end
end L2
end
section
namespace Q
open PySem PySem.Spec PyProof.Rows L2 Omega OmMath
def intV (l:List Int):List V:=l.map V.int
end Q
end
section
namespace OmForm
open Omega
theorem num_ext {x y:Num} (h1:x.a=y.a) (h2:x.b=y.b) (h3:x.c=y.c) (h4:x.d=y.d):x=y:=by
 cases x
 cases y
 simp_all
def npowN (x:Num):Nat->Num
 | 0=>⟨1,0,0,0⟩
 | n + 1=>times (npowN x n) x
def negN (x:Num):Num:=⟨-x.a,-x.b,-x.c,-x.d⟩
instance iAdd:Add Num:=⟨plus⟩
instance iMul:Mul Num:=⟨times⟩
instance iNeg:Neg Num:=⟨negN⟩
instance iSub:Sub Num:=⟨minus⟩
instance iNatCast:NatCast Num:=⟨fun n=>⟨(n:Int),0,0,0⟩⟩
instance iOfNat (n:Nat):OfNat Num n:=⟨⟨(n:Int),0,0,0⟩⟩
instance iPow:HPow Num Nat Num:=⟨npowN⟩
instance iSmul:SMul Nat Num:=⟨fun n x=>times ⟨(n:Int),0,0,0⟩ x⟩
instance iIntCast:IntCast Num:=⟨fun i=>⟨i,0,0,0⟩⟩
instance iZsmul:SMul Int Num:=⟨fun n x=>times ⟨n,0,0,0⟩ x⟩
theorem add_def (x y:Num):x + y=plus x y:=rfl
theorem mul_def (x y:Num):x * y=times x y:=rfl
theorem neg_def (x:Num) : -x=negN x:=rfl
theorem sub_def (x y:Num):x - y=minus x y:=rfl
theorem ofNat_def (n:Nat):(OfNat.ofNat n:Num) = ⟨(n:Int),0,0,0⟩:=rfl
theorem zero_def:(0:Num) = ⟨0,0,0,0⟩:=rfl
theorem one_def:(1:Num) = ⟨1,0,0,0⟩:=rfl
instance iRing:Lean.Grind.CommRing Num where
 add_zero x:=by (apply num_ext <;> simp only [add_def,mul_def,neg_def,sub_def,zero_def,one_def,plus,times,negN,minus] <;> grind)
 add_comm x y:=by (apply num_ext <;> simp only [add_def,mul_def,neg_def,sub_def,zero_def,one_def,plus,times,negN,minus] <;> grind)
 add_assoc x y z:=by (apply num_ext <;> simp only [add_def,mul_def,neg_def,sub_def,zero_def,one_def,plus,times,negN,minus] <;> grind)
 mul_assoc x y z:=by (apply num_ext <;> simp only [add_def,mul_def,neg_def,sub_def,zero_def,one_def,plus,times,negN,minus] <;> grind)
 mul_one x:=by (apply num_ext <;> simp only [add_def,mul_def,neg_def,sub_def,zero_def,one_def,plus,times,negN,minus] <;> grind)
 one_mul x:=by (apply num_ext <;> simp only [add_def,mul_def,neg_def,sub_def,zero_def,one_def,plus,times,negN,minus] <;> grind)
 left_distrib x y z:=by (apply num_ext <;> simp only [add_def,mul_def,neg_def,sub_def,zero_def,one_def,plus,times,negN,minus] <;> grind)
 right_distrib x y z:=by (apply num_ext <;> simp only [add_def,mul_def,neg_def,sub_def,zero_def,one_def,plus,times,negN,minus] <;> grind)
 zero_mul x:=by (apply num_ext <;> simp only [add_def,mul_def,neg_def,sub_def,zero_def,one_def,plus,times,negN,minus] <;> grind)
 mul_zero x:=by (apply num_ext <;> simp only [add_def,mul_def,neg_def,sub_def,zero_def,one_def,plus,times,negN,minus] <;> grind)
 pow_zero x:=rfl
 pow_succ x n:=rfl
 ofNat_succ n:=by
  show (⟨((n + 1:Nat):Int),0,0,0⟩:Num)=plus ⟨(n:Int),0,0,0⟩ ⟨1,0,0,0⟩
  simp [plus]
 ofNat_eq_natCast n:=rfl
 nsmul_eq_natCast_mul n x:=rfl
 neg_add_cancel x:=by (apply num_ext <;> simp only [add_def,mul_def,neg_def,sub_def,zero_def,one_def,plus,times,negN,minus] <;> grind)
 sub_eq_add_neg x y:=by (apply num_ext <;> simp only [add_def,mul_def,neg_def,sub_def,zero_def,one_def,plus,times,negN,minus] <;> grind)
 intCast_ofNat n:=rfl
 intCast_neg i:=by
  show (⟨-i,0,0,0⟩:Num)=negN ⟨i,0,0,0⟩
  simp [negN]
 zsmul_natCast_eq_nsmul n x:=rfl
 neg_zsmul i x:=by
  show times ⟨-i,0,0,0⟩ x=negN (times ⟨i,0,0,0⟩ x)
  apply num_ext <;> simp only [times,negN] <;> grind
 mul_comm x y:=by (apply num_ext <;> simp only [add_def,mul_def,neg_def,sub_def,zero_def,one_def,plus,times,negN,minus] <;> grind)
def om:Num:=⟨0,1,0,0⟩
def rt:Num:=⟨0,1,0,-1⟩
theorem rt2:rt * rt=2:=by decide
theorem omega_mul (x:Num):omega x=om * x:=by
 apply num_ext <;> simp only [mul_def,times,omega,om] <;> grind
theorem root_mul (x:Num):root x=rt * x:=by
 apply num_ext <;> simp only [mul_def,times,root,rt] <;> grind
theorem bar_add (x y:Num):bar (x + y)=bar x + bar y:=by
 apply num_ext <;> simp only [add_def,plus,bar] <;> grind
theorem bar_mul (x y:Num):bar (x * y)=bar x * bar y:=by
 apply num_ext <;> simp only [mul_def,times,bar] <;> grind
theorem bar_sub (x y:Num):bar (x - y)=bar x - bar y:=by
 apply num_ext <;> simp only [sub_def,minus,bar] <;> grind
theorem bar_bar (x:Num):bar (bar x)=x:=by
 apply num_ext <;> simp only [bar] <;> grind
def mid (m Q:Turn):Turn:=(m.times Q).times m.bars
def part (N:Turn) (p:Nat):Num:=plus ((pauli p).times N).a ((pauli p).times N).d
theorem seen_part (m:Turn) (p q:Nat):m.seen p q=part (mid m (pauli q)) p:=rfl
def im:Num:=⟨0,0,1,0⟩
theorem part0 (N:Turn):part N 0=N.a + N.d:=by
 show plus (plus (times one N.a) (times zero N.c)) (plus (times zero N.b) (times one N.d))=_
 show (1:Num) * N.a + 0 * N.c + (0 * N.b + 1 * N.d)=N.a + N.d
 grind
theorem part1 (N:Turn):part N 1=N.b + N.c:=by
 show (0:Num) * N.a + 1 * N.c + (1 * N.b + 0 * N.d)=N.b + N.c
 grind
theorem part2 (N:Turn):part N 2=im * (N.b - N.c):=by
 have h1:turned zero 6=0:=by decide
 have h2:turned one 6 = -im:=by decide
 have h3:turned one 2=im:=by decide
 have h4:turned zero 2=0:=by decide
 show (turned zero 6) * N.a + (turned one 6) * N.c + ((turned one 2) * N.b + (turned zero 2) * N.d)=_
 rw [h1,h2,h3,h4]
 grind
theorem part3 (N:Turn):part N 3=N.a - N.d:=by
 have h1:turned zero 4=0:=by decide
 have h2:turned one 4 = -1:=by decide
 show (1:Num) * N.a + 0 * N.c + ((turned zero 4) * N.b + (turned one 4) * N.d)=_
 rw [h1,h2]
 grind
theorem mid_a (m Q:Turn):(mid m Q).a=(m.a * Q.a + m.b * Q.c) * bar m.a + (m.a * Q.b + m.b * Q.d) * bar m.b:=rfl
theorem mid_b (m Q:Turn):(mid m Q).b=(m.a * Q.a + m.b * Q.c) * bar m.c + (m.a * Q.b + m.b * Q.d) * bar m.d:=rfl
theorem mid_c (m Q:Turn):(mid m Q).c=(m.c * Q.a + m.d * Q.c) * bar m.a + (m.c * Q.b + m.d * Q.d) * bar m.b:=rfl
theorem mid_d (m Q:Turn):(mid m Q).d=(m.c * Q.a + m.d * Q.c) * bar m.c + (m.c * Q.b + m.d * Q.d) * bar m.d:=rfl
def lowRow (u:Num) (m:Turn):Turn:=⟨m.a,m.b,u * m.c,u * m.d⟩
theorem low_a (u:Num) (m Q:Turn):(mid (lowRow u m) Q).a=(mid m Q).a:=rfl
theorem low_b (u:Num) (m Q:Turn):(mid (lowRow u m) Q).b=bar u * (mid m Q).b:=by
 rw [mid_b,mid_b]
 simp only [lowRow,bar_mul]
 grind
theorem low_c (u:Num) (m Q:Turn):(mid (lowRow u m) Q).c=u * (mid m Q).c:=by
 rw [mid_c,mid_c]
 simp only [lowRow]
 grind
theorem low_d (u:Num) (m Q:Turn) (h:u * bar u=1):(mid (lowRow u m) Q).d=(mid m Q).d:=by
 rw [mid_d,mid_d]
 simp only [lowRow,bar_mul]
 grind
theorem turned_om (j:Int) (x:Num):turned x j=(om ^ (j % 8).toNat:Num) * x:=by
 unfold turned
 generalize (j % 8).toNat=k
 induction k generalizing x with
 | zero=>
  show x=1 * x
  grind
 | succ k ih=>
  show repeated omega k (omega x)=npowN om k * om * x
  rw [ih,omega_mul]
  show npowN om k * (om * x)=_
  grind
theorem turned_row (m:Turn) (j:Int):m.turned j=lowRow (om ^ (j % 8).toNat) m:=by
 show (⟨m.a,m.b,Omega.turned m.c j,Omega.turned m.d j⟩:Turn) = ⟨m.a,m.b,_,_⟩
 rw [turned_om,turned_om]
section
variable (m Q:Turn)
abbrev sn (m Q:Turn) (p:Nat):Num:=part (mid m Q) p
theorem t_n:sn (m.turned 1) Q 0=sn m Q 0:=by
 rw [turned_row]
 simp only [sn,part0,low_a]
 rw [low_d _ _ _ (by decide)]
theorem t_z:sn (m.turned 1) Q 3=sn m Q 3:=by
 rw [turned_row]
 simp only [sn,part3,low_a]
 rw [low_d _ _ _ (by decide)]
theorem t_x:rt * sn (m.turned 1) Q 1=sn m Q 1 - sn m Q 2:=by
 rw [turned_row]
 simp only [sn,part1,part2,low_b,low_c]
 have h1:rt * bar (om ^ ((1:Int) % 8).toNat)=1 - im:=by decide
 have h2:rt * om ^ ((1:Int) % 8).toNat=1 + im:=by decide
 grind
theorem t_y:rt * sn (m.turned 1) Q 2=sn m Q 1 + sn m Q 2:=by
 rw [turned_row]
 simp only [sn,part1,part2,low_b,low_c]
 have h1:rt * bar (om ^ ((1:Int) % 8).toNat)=1 - im:=by decide
 have h2:rt * om ^ ((1:Int) % 8).toNat=1 + im:=by decide
 have h3:im * im = -1:=by decide
 grind
theorem t7_n:sn (m.turned 7) Q 0=sn m Q 0:=by
 rw [turned_row]
 simp only [sn,part0,low_a]
 rw [low_d _ _ _ (by decide)]
theorem t7_z:sn (m.turned 7) Q 3=sn m Q 3:=by
 rw [turned_row]
 simp only [sn,part3,low_a]
 rw [low_d _ _ _ (by decide)]
theorem t7_x:rt * sn (m.turned 7) Q 1=sn m Q 1 + sn m Q 2:=by
 rw [turned_row]
 simp only [sn,part1,part2,low_b,low_c]
 have h1:rt * bar (om ^ ((7:Int) % 8).toNat)=1 + im:=by decide
 have h2:rt * om ^ ((7:Int) % 8).toNat=1 - im:=by decide
 grind
theorem t7_y:rt * sn (m.turned 7) Q 2=sn m Q 2 - sn m Q 1:=by
 rw [turned_row]
 simp only [sn,part1,part2,low_b,low_c]
 have h1:rt * bar (om ^ ((7:Int) % 8).toNat)=1 + im:=by decide
 have h2:rt * om ^ ((7:Int) % 8).toNat=1 - im:=by decide
 have h3:im * im = -1:=by decide
 grind
theorem s_n (j:Int) (hj:j=2 \/ j=6):sn (m.turned j) Q 0=sn m Q 0:=by
 rw [turned_row]
 simp only [sn,part0,low_a]
 rcases hj with rfl | rfl <;> rw [low_d _ _ _ (by decide)]
theorem s_z (j:Int) (hj:j=2 \/ j=6):sn (m.turned j) Q 3=sn m Q 3:=by
 rw [turned_row]
 simp only [sn,part3,low_a]
 rcases hj with rfl | rfl <;> rw [low_d _ _ _ (by decide)]
theorem s2_x:sn (m.turned 2) Q 1 = -sn m Q 2:=by
 rw [turned_row]
 simp only [sn,part1,part2,low_b,low_c]
 have h1:bar (om ^ ((2:Int) % 8).toNat) = -im:=by decide
 have h2:om ^ ((2:Int) % 8).toNat=im:=by decide
 rw [h1,h2]
 grind
theorem s2_y:sn (m.turned 2) Q 2=sn m Q 1:=by
 rw [turned_row]
 simp only [sn,part1,part2,low_b,low_c]
 have h1:bar (om ^ ((2:Int) % 8).toNat) = -im:=by decide
 have h2:om ^ ((2:Int) % 8).toNat=im:=by decide
 have h3:im * im = -1:=by decide
 rw [h1,h2]
 grind
def had (m:Turn):Turn:=⟨plus m.a m.c,plus m.b m.d,minus m.a m.c,minus m.b m.d⟩
theorem had_a:(mid (had m) Q).a=(mid m Q).a + (mid m Q).b + (mid m Q).c + (mid m Q).d:=by
 simp only [mid_a,mid_b,mid_c,mid_d,had,<- add_def,<- sub_def,bar_add,bar_sub]
 grind
theorem had_b:(mid (had m) Q).b=(mid m Q).a - (mid m Q).b + (mid m Q).c - (mid m Q).d:=by
 simp only [mid_a,mid_b,mid_c,mid_d,had,<- add_def,<- sub_def,bar_add,bar_sub]
 grind
theorem had_c:(mid (had m) Q).c=(mid m Q).a + (mid m Q).b - (mid m Q).c - (mid m Q).d:=by
 simp only [mid_a,mid_b,mid_c,mid_d,had,<- add_def,<- sub_def,bar_add,bar_sub]
 grind
theorem had_d:(mid (had m) Q).d=(mid m Q).a - (mid m Q).b - (mid m Q).c + (mid m Q).d:=by
 simp only [mid_a,mid_b,mid_c,mid_d,had,<- add_def,<- sub_def,bar_add,bar_sub]
 grind
theorem h_n:sn (had m) Q 0=2 * sn m Q 0:=by
 simp only [sn,part0,had_a,had_d]
 grind
theorem h_x:sn (had m) Q 1=2 * sn m Q 3:=by
 simp only [sn,part1,part3,had_b,had_c]
 grind
theorem h_z:sn (had m) Q 3=2 * sn m Q 1:=by
 simp only [sn,part1,part3,had_a,had_d]
 grind
theorem h_y:sn (had m) Q 2 = -(2 * sn m Q 2):=by
 simp only [sn,part2,had_b,had_c]
 grind
end
def allBy (u:Num) (m:Turn):Turn:=⟨u * m.a,u * m.b,u * m.c,u * m.d⟩
theorem all_sn (u:Num) (m Q:Turn) (p:Nat):sn (allBy u m) Q p=u * bar u * sn m Q p:=by
 have a:(mid (allBy u m) Q).a=u * bar u * (mid m Q).a:=by
  simp only [mid_a,allBy,bar_mul]
  grind
 have b:(mid (allBy u m) Q).b=u * bar u * (mid m Q).b:=by
  simp only [mid_b,allBy,bar_mul]
  grind
 have c:(mid (allBy u m) Q).c=u * bar u * (mid m Q).c:=by
  simp only [mid_c,allBy,bar_mul]
  grind
 have d:(mid (allBy u m) Q).d=u * bar u * (mid m Q).d:=by
  simp only [mid_d,allBy,bar_mul]
  grind
 show plus (plus (times _ _) (times _ _)) (plus (times _ _) (times _ _))=_ * plus (plus (times _ _) (times _ _)) (plus (times _ _) (times _ _))
 simp only [<- add_def,<- mul_def]
 rw [a,b,c,d]
 grind
def D (k:Nat) (x:Num):Prop:=∃ y:Num,x=rt ^ k * y
theorem pow_s (x:Num) (k:Nat):x ^ (k + 1)=x ^ k * x:=rfl
theorem pow_z (x:Num):x ^ 0=(1:Num):=rfl
theorem pow_add (x:Num) (j k:Nat):x ^ (j + k)=x ^ j * x ^ k:=by
 induction k with
 | zero=>rw [Nat.add_zero,pow_z]; grind
 | succ k ih=>rw [<- Nat.add_assoc,pow_s,pow_s,ih]; grind
theorem rt_cancel {x y:Num} (h:rt * x=rt * y):x=y:=by
 have e:(2:Num) * x=2 * y:=by
  have:=rt2
  grind
 have e2:times ⟨2,0,0,0⟩ x=times ⟨2,0,0,0⟩ y:=e
 have f1:=congrArg Num.a e2
 have f2:=congrArg Num.b e2
 have f3:=congrArg Num.c e2
 have f4:=congrArg Num.d e2
 simp only [times] at f1 f2 f3 f4
 apply num_ext <;> omega
theorem rtp_cancel {x y:Num} (k:Nat) (h:rt ^ k * x=rt ^ k * y):x=y:=by
 induction k with
 | zero=>
  rw [pow_z] at h
  grind
 | succ k ih=>
  apply ih
  apply rt_cancel
  rw [pow_s] at h
  grind
theorem D.zero (k:Nat):D k 0:=⟨0,by grind⟩
theorem D.none (x:Num):D 0 x:=⟨x,by rw [pow_z]; grind⟩
theorem D.add {k:Nat} {x y:Num} (h:D k x) (g:D k y):D k (x + y):=by
 obtain ⟨a,rfl⟩:=h
 obtain ⟨b,rfl⟩:=g
 exact ⟨a + b,by grind⟩
theorem D.neg {k:Nat} {x:Num} (h:D k x):D k (-x):=by
 obtain ⟨a,rfl⟩:=h
 exact ⟨-a,by grind⟩
theorem D.sub {k:Nat} {x y:Num} (h:D k x) (g:D k y):D k (x - y):=by
 obtain ⟨a,rfl⟩:=h
 obtain ⟨b,rfl⟩:=g
 exact ⟨a - b,by grind⟩
theorem D.le {j k:Nat} {x:Num} (h:D k x) (l:j<=k):D j x:=by
 obtain ⟨a,rfl⟩:=h
 obtain ⟨i,rfl⟩:=Nat.exists_eq_add_of_le l
 exact ⟨rt ^ i * a,by rw [pow_add]; grind⟩
theorem D.up {k:Nat} (j:Nat) {x:Num} (h:D k x):D (j + k) (rt ^ j * x):=by
 obtain ⟨a,rfl⟩:=h
 exact ⟨a,by rw [pow_add]; grind⟩
theorem D.down {k:Nat} (j:Nat) {x:Num} (h:D (j + k) (rt ^ j * x)):D k x:=by
 obtain ⟨a,e⟩:=h
 exact ⟨a,rtp_cancel j (by rw [e,pow_add]; grind)⟩
theorem D.up1 {k:Nat} {x:Num} (h:D k x):D (k + 1) (rt * x):=by
 have:=D.up 1 h
 rw [pow_s,pow_z,Nat.add_comm] at this
 have e:(1:Num) * rt * x=rt * x:=by grind
 rwa [e] at this
theorem D.down1 {k:Nat} {x:Num} (h:D (k + 1) (rt * x)):D k x:=by
 apply D.down 1
 rw [pow_s,pow_z,Nat.add_comm]
 have e:(1:Num) * rt * x=rt * x:=by grind
 rwa [e]
theorem two_rt (x:Num):(2:Num) * x=rt ^ 2 * x:=by
 rw [pow_s,pow_s,pow_z]
 have:=rt2
 grind
theorem D.two {k:Nat} {x:Num} (h:D k x):D (k + 2) (2 * x):=by
 rw [two_rt,Nat.add_comm]
 exact D.up 2 h
theorem D.neg_iff {k:Nat} {x:Num}:D k (-x) <-> D k x:=⟨fun h=>by
 have:=h.neg
 have e : - -x=x:=by grind
 rwa [e] at this,D.neg⟩
theorem D.swap {k:Nat} {x y:Num} (hy:D k y):D (k + 1) (x - y) <-> D (k + 1) (x + y):=by
 have h2:D (k + 1) (2 * y):=hy.two.le (by omega)
 constructor
 . intro h
   have:=h.add h2
   have e:x - y + 2 * y=x + y:=by grind
   rwa [e] at this
 . intro h
   have:=h.sub h2
   have e:x + y - 2 * y=x - y:=by grind
   rwa [e] at this
def Rl (x:Num):Prop:=bar x=x
theorem Rl.cd {x:Num} (h:Rl x):x.c=0/\x.d = -x.b:=by
 unfold Rl bar at h
 have h1:=congrArg Num.b h
 have h2:=congrArg Num.c h
 dsimp only at h1 h2
 omega
def re (u v:Int):Num:=⟨u,v,0,-v⟩
theorem Rl.re {x:Num} (h:Rl x):x=re x.a x.b:=by
 obtain ⟨h1,h2⟩:=h.cd
 apply num_ext <;> simp [OmForm.re,h1,h2]
theorem rt_re (u v:Int):rt * re u v=re (2 * v) u:=by
 apply num_ext <;> simp only [mul_def,times,rt,re] <;> omega
theorem odd_no {u v:Int} (h:¬ u % 2=0) (k:Nat):¬ D (k + 1) (re u v):=by
 rintro ⟨y,e⟩
 apply h
 have e:re u v=rt * (rt ^ k * y):=by rw [e,pow_s]; grind
 have e1:=congrArg Num.a e
 have e2:=congrArg Num.c e
 generalize rt ^ k * y=z at e1 e2
 simp only [mul_def,times,rt,re] at e1 e2
 omega
theorem depth_iff:∀ (f k:Nat) (u v:Int),k<=f->(k<=depthReal f u v <-> D k (re u v))
 | f,0,u,v,_=>⟨fun _=>D.none _,fun _=>Nat.zero_le _⟩
 | 0,k + 1,u,v,h=>by omega
 | f + 1,k + 1,u,v,h=>by
  unfold depthReal
  by_cases hu:u % 2=0
  . rw [if_pos hu]
    have ih:=depth_iff f k v (u / 2) (by omega)
    have e:re u v=rt * re v (u / 2):=by
     rw [rt_re]
     congr 1
     omega
    rw [e]
    constructor
    . intro g
      exact (ih.mp (by omega)).up1
    . intro g
      have:=ih.mpr g.down1
      omega
  . rw [if_neg hu]
    constructor
    . intro g
      omega
    . intro g
      exact absurd g (odd_no hu k)
theorem rt_two (j:Nat) (y:Num):∃ z:Num,rt ^ (2 * j) * y=z/\z.a=2 ^ j * y.a/\z.b=2 ^ j * y.b:=by
 induction j generalizing y with
 | zero=>
  refine ⟨y,?_,by simp,by simp⟩
  show rt ^ 0 * y=y
  rw [pow_z]
  grind
 | succ j ih=>
  obtain ⟨z,e,e1,e2⟩:=ih (2 * y)
  have t1:(2 * y:Num).a=2 * y.a:=by
   show (times ⟨2,0,0,0⟩ y).a=_
   unfold times
   dsimp only
   omega
  have t2:(2 * y:Num).b=2 * y.b:=by
   show (times ⟨2,0,0,0⟩ y).b=_
   unfold times
   dsimp only
   omega
  refine ⟨z,?_,?_,?_⟩
  . rw [<- e,show 2 * (j + 1)=2 * j + 1 + 1 from rfl,pow_s,pow_s]
    have:=rt2
    grind
  . rw [e1,t1,Int.pow_succ]
    grind
  . rw [e2,t2,Int.pow_succ]
    grind
theorem enough_no {x:Num} (hr:Rl x) (h0:x ≠ 0):¬ D (enough x) x:=by
 rintro ⟨y,e⟩
 unfold enough at e
 generalize hL:(x.a.natAbs + x.b.natAbs + x.b.natAbs + 1).log2=L at e
 obtain ⟨z,ez,e1,e2⟩:=rt_two (L + 2) y
 rw [ez] at e
 subst e
 have hn:x.a.natAbs + x.b.natAbs + x.b.natAbs + 1 < 2 ^ (L + 1):=by
  rw [<- hL]
  exact Nat.lt_log2_self
 have p:(2:Nat) ^ (L + 2)=2 * 2 ^ (L + 1):=by rw [Nat.pow_succ,Nat.mul_comm]
 have a1:x.a.natAbs=2 ^ (L + 2) * y.a.natAbs:=by rw [e1,Int.natAbs_mul,Int.natAbs_pow]; rfl
 have a2:x.b.natAbs=2 ^ (L + 2) * y.b.natAbs:=by rw [e2,Int.natAbs_mul,Int.natAbs_pow]; rfl
 have z1:y.a.natAbs=0:=by
  rcases Nat.eq_zero_or_pos y.a.natAbs with q | q
  . exact q
  . have:=Nat.le_mul_of_pos_right (2 ^ (L + 2)) q
    omega
 have z2:y.b.natAbs=0:=by
  rcases Nat.eq_zero_or_pos y.b.natAbs with q | q
  . exact q
  . have:=Nat.le_mul_of_pos_right (2 ^ (L + 2)) q
    omega
 have b1:x.a=0:=by
  have:x.a.natAbs=0:=by rw [a1,z1,Nat.mul_zero]
  omega
 have b2:x.b=0:=by
  have:x.b.natAbs=0:=by rw [a2,z2,Nat.mul_zero]
  omega
 apply h0
 obtain ⟨c1,c2⟩:=hr.cd
 exact num_ext b1 b2 c1 (by rw [c2,b2]; rfl)
def val (x:Num):Nat:=depthReal (enough x) x.a x.b
theorem depth_le:∀ (f:Nat) (u v:Int),depthReal f u v<=f
 | 0,_,_=>Nat.le_refl _
 | f + 1,u,v=>by
  unfold depthReal
  split
  . have:=depth_le f v (u / 2)
    omega
  . omega
theorem val_iff {x:Num} (hr:Rl x) (h0:x ≠ 0) (k:Nat):k<=val x <-> D k x:=by
 by_cases h:k<=enough x
 . have:=depth_iff (enough x) k x.a x.b h
   rw [<- hr.re] at this
   exact this
 . constructor
   . intro g
     have:=depth_le (enough x) x.a x.b
     unfold val at g
     omega
   . intro g
     exact absurd (g.le (by omega)) (enough_no hr h0)
structure Hm (Q:Turn):Prop where
 a:bar Q.a=Q.a
 d:bar Q.d=Q.d
 b:bar Q.b=Q.c
theorem Hm.c {Q:Turn} (h:Hm Q):bar Q.c=Q.b:=by rw [<- h.b,bar_bar]
theorem Hm.mid {Q:Turn} (m:Turn) (h:Hm Q):Hm (mid m Q):=by
 have h1:=h.a
 have h2:=h.d
 have h3:=h.b
 have h4:=h.c
 refine ⟨?_,?_,?_⟩
 . rw [mid_a]
   simp only [bar_add,bar_mul,bar_bar,h1,h2,h3,h4]
   grind
 . rw [mid_d]
   simp only [bar_add,bar_mul,bar_bar,h1,h2,h3,h4]
   grind
 . rw [mid_b,mid_c]
   simp only [bar_add,bar_mul,bar_bar,h1,h2,h3,h4]
   grind
theorem bar_im:bar im = -im:=by decide
theorem Hm.part {N:Turn} (h:Hm N) {p:Nat} (hp:p < 4):Rl (part N p):=by
 have h1:=h.a
 have h2:=h.d
 have h3:=h.b
 have h4:=h.c
 unfold Rl
 match p,hp with
 | 0,_=>rw [part0,bar_add,h1,h2]
 | 1,_=>rw [part1,bar_add,h3,h4]; grind
 | 2,_=>rw [part2,bar_mul,bar_sub,h3,h4,bar_im]; grind
 | 3,_=>rw [part3,bar_sub,h1,h2]
theorem hm_pauli {q:Nat} (hq:q < 4):Hm (pauli q):=by
 match q,hq with
 | 0,_=>exact ⟨by decide,by decide,by decide⟩
 | 1,_=>exact ⟨by decide,by decide,by decide⟩
 | 2,_=>exact ⟨by decide,by decide,by decide⟩
 | 3,_=>exact ⟨by decide,by decide,by decide⟩
theorem seen_real (m:Turn) {p q:Nat} (hp:p < 4) (hq:q < 4):Rl (m.seen p q):=((hm_pauli hq).mid m).part hp
def In3 (q:Nat):Prop:=q=1 \/ q=2 \/ q=3
theorem In3.lt {q:Nat} (h:In3 q):q < 4:=by
 rcases h with rfl | rfl | rfl <;> decide
def Cst (k:Nat) (m:Turn):Prop:=∃ e,D (e + k) (m.seen 0 0) /\ ¬ D (e + k + 1) (m.seen 0 0)/\(∀ p q,In3 p->In3 q->D e (m.seen p q))/\(k=0 \/ ∃ p q,In3 p/\In3 q /\ ¬ D (e + 1) (m.seen p q))
theorem max_le {α:Type} (f:α->Nat):∀ (l:List α) (r k:Nat),l.foldl (fun r x=>max r (f x)) r<=k <-> r<=k/\∀ x ∈ l,f x<=k
 | [],r,k=>by simp
 | x :: l,r,k=>by
  rw [List.foldl_cons,max_le f l]
  simp only [List.mem_cons,forall_eq_or_imp,Nat.max_le,and_assoc]
theorem max_ge {α:Type} (f:α->Nat):∀ (l:List α) (r k:Nat),(r >= k \/ ∃ x ∈ l,f x >= k)->l.foldl (fun r x=>max r (f x)) r >= k
 | [],r,k,h=>by
  rcases h with h | ⟨x,hx,_⟩
  . exact h
  . cases hx
 | x :: l,r,k,h=>by
  rw [List.foldl_cons]
  apply max_ge f l
  rcases h with h | ⟨y,hy,g⟩
  . left
    omega
  . rcases List.mem_cons.mp hy with rfl | hy
    . left
      omega
    . exact .inr ⟨y,hy,g⟩
def seens (m:Turn):List Num:=([1,2,3].flatMap fun (p:Nat)=>[1,2,3].map fun (q:Nat)=>m.seen p q).filter fun (x:Num)=>x != zero
theorem mem_seens {m:Turn} {x:Num}:x ∈ seens m <-> x ≠ 0/\∃ p q,In3 p/\In3 q/\x=m.seen p q:=by
 unfold seens
 rw [List.mem_filter,List.mem_flatMap]
 constructor
 . rintro ⟨⟨p,hp,hx⟩,h0⟩
   rw [List.mem_map] at hx
   obtain ⟨q,hq,rfl⟩:=hx
   refine ⟨?_,p,q,by simpa [In3] using hp,by simpa [In3] using hq,rfl⟩
   intro z
   rw [z] at h0
   exact absurd h0 (by decide)
 . rintro ⟨h0,p,q,hp,hq,rfl⟩
   refine ⟨⟨p,by simpa [In3] using hp,List.mem_map.mpr ⟨q,by simpa [In3] using hq,rfl⟩⟩,?_⟩
   have h0:m.seen p q ≠ zero:=h0
   simpa using h0
theorem cost_eq (m:Turn):m.cost=(seens m).foldl (fun r x=>max r (val (m.seen 0 0) - val x)) 0:=rfl
theorem Cst.cost {k:Nat} {m:Turn} (h:Cst k m):m.cost=k:=by
 obtain ⟨e,h1,h2,h3,h4⟩:=h
 have r0:Rl (m.seen 0 0):=seen_real m (by decide) (by decide)
 have n0:m.seen 0 0 ≠ 0:=fun z=>h2 (z ▸ D.zero _)
 have v0:val (m.seen 0 0)=e + k:=by
  have a:=(val_iff r0 n0 (e + k)).mpr h1
  have b:¬ e + k + 1<=val (m.seen 0 0):=fun z=>h2 ((val_iff r0 n0 _).mp z)
  omega
 rw [cost_eq]
 apply Nat.le_antisymm
 . rw [max_le]
   refine ⟨Nat.zero_le _,fun x hx=>?_⟩
   obtain ⟨x0,p,q,hp,hq,rfl⟩:=mem_seens.mp hx
   have:=(val_iff (seen_real m hp.lt hq.lt) x0 e).mpr (h3 p q hp hq)
   omega
 . apply max_ge
   rcases h4 with rfl | ⟨p,q,hp,hq,h5⟩
   . exact .inl (Nat.zero_le _)
   . right
     have x0:m.seen p q ≠ 0:=fun z=>h5 (z ▸ D.zero _)
     refine ⟨_,mem_seens.mpr ⟨x0,p,q,hp,hq,rfl⟩,?_⟩
     have b:¬ e + 1<=val (m.seen p q):=fun z=>h5 ((val_iff (seen_real m hp.lt hq.lt) x0 _).mp z)
     omega
def Fac (a:Num):Prop:=∃ t i:Nat,a=om ^ t * rt ^ i
theorem Fac.one:Fac 1:=⟨0,0,by rw [pow_z,pow_z]; grind⟩
theorem Fac.mul {a b:Num} (h:Fac a) (g:Fac b):Fac (a * b):=by
 obtain ⟨t,i,rfl⟩:=h
 obtain ⟨s,j,rfl⟩:=g
 exact ⟨t + s,i + j,by rw [pow_add,pow_add]; grind⟩
theorem Fac.rt (i:Nat):Fac (rt ^ i):=⟨0,i,by rw [pow_z]; grind⟩
theorem bar_one:bar (1:Num)=1:=by decide
theorem om_bar (t:Nat):om ^ t * bar (om ^ t)=1:=by
 induction t with
 | zero=>rw [pow_z,bar_one]; grind
 | succ t ih=>
  rw [pow_s,bar_mul]
  have:om * bar om=1:=by decide
  grind
theorem rt_bar (i:Nat):rt ^ i * bar (rt ^ i)=rt ^ (2 * i):=by
 induction i with
 | zero=>rw [pow_z,bar_one]; grind
 | succ i ih=>
  rw [show 2 * (i + 1)=2 * i + 1 + 1 from rfl,pow_s,pow_s,pow_s,bar_mul]
  have:bar OmForm.rt=OmForm.rt:=by decide
  grind
theorem Fac.size {a:Num} (h:Fac a):∃ i,a * bar a=OmForm.rt ^ (2 * i):=by
 obtain ⟨t,i,rfl⟩:=h
 refine ⟨i,?_⟩
 have h1:=om_bar t
 have h2:=rt_bar i
 rw [bar_mul]
 grind
theorem Fac.cancel {a x y:Num} (h:Fac a) (e:a * x=a * y):x=y:=by
 obtain ⟨i,hi⟩:=h.size
 apply rtp_cancel (2 * i)
 rw [<- hi]
 grind
def Pj (m k:Turn):Prop:=∃ a b,Fac a/\Fac b/\allBy a m=allBy b k
theorem all_one (m:Turn):allBy 1 m=m:=by
 show (⟨1 * m.a,1 * m.b,1 * m.c,1 * m.d⟩:Turn)=m
 have e:∀ x:Num,1 * x=x:=fun x=>by grind
 rw [e,e,e,e]
theorem all_all (a b:Num) (m:Turn):allBy a (allBy b m)=allBy (a * b) m:=by
 show (⟨_,_,_,_⟩:Turn) = ⟨_,_,_,_⟩
 have e:∀ x:Num,a * (b * x)=a * b * x:=fun x=>by grind
 simp only [allBy,e]
theorem Pj.refl (m:Turn):Pj m m:=⟨1,1,Fac.one,Fac.one,rfl⟩
theorem Pj.symm {m k:Turn} (h:Pj m k):Pj k m:=let ⟨a,b,ha,hb,e⟩:=h; ⟨b,a,hb,ha,e.symm⟩
theorem Pj.trans {m k l:Turn} (h:Pj m k) (g:Pj k l):Pj m l:=by
 obtain ⟨a,b,ha,hb,e⟩:=h
 obtain ⟨c,d,hc,hd,f⟩:=g
 refine ⟨c * a,b * d,hc.mul ha,hb.mul hd,?_⟩
 rw [<- all_all,e,all_all,<- all_all b d,<- f,all_all]
 congr 1
 grind
theorem Pj.by {a:Num} (h:Fac a) (m:Turn):Pj (allBy a m) m:=⟨1,a,Fac.one,h,all_one _⟩
theorem Pj.seen {m k:Turn} (h:Pj m k):∃ i j:Nat,∀ p q:Nat,rt ^ i * m.seen p q=rt ^ j * k.seen p q:=by
 obtain ⟨a,b,ha,hb,e⟩:=h
 obtain ⟨i,hi⟩:=ha.size
 obtain ⟨j,hj⟩:=hb.size
 refine ⟨2 * i,2 * j,fun p q=>?_⟩
 rw [<- hi,<- hj]
 have h1:=all_sn a m (pauli q) p
 have h2:=all_sn b k (pauli q) p
 rw [e,h2] at h1
 exact h1.symm
theorem D.move {x y:Num} {i j e f:Nat} (h:rt ^ i * x=rt ^ j * y) (g:i + e=j + f):D e x <-> D f y:=by
 constructor
 . intro z
   apply D.down j
   rw [<- h,<- g]
   exact D.up i z
 . intro z
   apply D.down i
   rw [h,g]
   exact D.up j z
theorem D.room {x y:Num} {i j e:Nat} (h:rt ^ i * x=rt ^ j * y) (g:¬ D (e + 1) x):j<=i + e:=by
 apply Nat.le_of_not_lt
 intro l
 apply g
 obtain ⟨f,hf⟩:=Nat.exists_eq_add_of_le (show i + e + 1<=j from l)
 refine ⟨rt ^ f * y,?_⟩
 apply rtp_cancel i
 rw [h,hf,pow_add,show i + e + 1=i + (e + 1) from rfl,pow_add]
 grind
theorem Cst.pj {k:Nat} {m l:Turn} (h:Cst k m) (g:Pj m l):Cst k l:=by
 obtain ⟨i,j,s⟩:=g.seen
 obtain ⟨e,h1,h2,h3,h4⟩:=h
 have room:j<=i + e:=by
  rcases h4 with rfl | ⟨p,q,hp,hq,h5⟩
  . exact D.room (s 0 0) h2
  . exact D.room (s p q) h5
 obtain ⟨f,hf⟩:=Nat.exists_eq_add_of_le room
 refine ⟨f,(D.move (s 0 0) (by omega)).mp h1,fun z=>h2 ((D.move (s 0 0) (by omega)).mpr z),fun p q hp hq=>(D.move (s p q) (by omega)).mp (h3 p q hp hq),?_⟩
 rcases h4 with rfl | ⟨p,q,hp,hq,h5⟩
 . exact .inl rfl
 . exact .inr ⟨p,q,hp,hq,fun z=>h5 ((D.move (s p q) (by omega)).mpr z)⟩
theorem turned_mul (a x:Num) (j:Int):turned (a * x) j=a * turned x j:=by
 rw [turned_om,turned_om]
 grind
theorem all_turned (a:Num) (m:Turn) (j:Int):(allBy a m).turned j=allBy a (m.turned j):=by
 show (⟨a * m.a,a * m.b,Omega.turned (a * m.c) j,Omega.turned (a * m.d) j⟩:Turn) = ⟨a * m.a,a * m.b,_,_⟩
 rw [turned_mul,turned_mul]
 rfl
theorem all_had (a:Num) (m:Turn):had (allBy a m)=allBy a (had m):=by
 have e1:∀ x y:Num,a * x + a * y=a * (x + y):=fun x y=>by grind
 have e2:∀ x y:Num,a * x - a * y=a * (x - y):=fun x y=>by grind
 show (⟨a * m.a + a * m.c,a * m.b + a * m.d,a * m.a - a * m.c,a * m.b - a * m.d⟩:Turn) = ⟨a * (m.a + m.c),a * (m.b + m.d),a * (m.a - m.c),a * (m.b - m.d)⟩
 rw [e1,e1,e2,e2]
theorem half_rt {x:Num} (h:halves x=true):rt * half x=x:=by
 rw [<- root_mul]
 unfold halves at h
 simp only [Bool.and_eq_true,decide_eq_true_eq] at h
 apply num_ext <;> simp only [root,half] <;> omega
theorem lower_by:∀ (n:Nat) (m:Turn),∃ i:Nat,m=allBy (rt ^ i) (Turn.lower n m)
 | 0,m=>⟨0,by rw [pow_z]; exact (all_one _).symm⟩
 | n + 1,m=>by
  unfold Turn.lower
  split
  . rename_i h
    simp only [Bool.and_eq_true] at h
    obtain ⟨h1,h2,h3,h4⟩:=h
    obtain ⟨i,e⟩:=lower_by n ⟨half m.a,half m.b,half m.c,half m.d⟩
    refine ⟨i + 1,?_⟩
    have e2:m=allBy rt ⟨half m.a,half m.b,half m.c,half m.d⟩:=by
     show m=(⟨rt * half m.a,rt * half m.b,rt * half m.c,rt * half m.d⟩:Turn)
     rw [half_rt h1,half_rt h2,half_rt h3,half_rt h4]
    have e3:rt ^ (i + 1)=rt * rt ^ i:=by rw [pow_s]; grind
    rw [e3,<- all_all,<- e]
    exact e2
  . exact ⟨0,by rw [pow_z]; exact (all_one _).symm⟩
theorem mixed_had (m:Turn):Pj m.mixed (had m):=by
 obtain ⟨i,e⟩:=lower_by 4 (had m)
 exact ⟨rt ^ i,1,Fac.rt i,Fac.one,by rw [all_one]; exact e.symm⟩
theorem Pj.had {m k:Turn} (h:Pj m k):Pj (had m) (OmForm.had k):=by
 obtain ⟨a,b,ha,hb,e⟩:=h
 exact ⟨a,b,ha,hb,by rw [<- all_had,<- all_had,e]⟩
theorem Pj.mixed {m k:Turn} (h:Pj m k):Pj m.mixed k.mixed:=(mixed_had m).trans (h.had.trans (mixed_had k).symm)
theorem Pj.turned {m k:Turn} (h:Pj m k) (j:Int):Pj (m.turned j) (k.turned j):=by
 obtain ⟨a,b,ha,hb,e⟩:=h
 exact ⟨a,b,ha,hb,by rw [<- all_turned,<- all_turned,e]⟩
theorem gate_g0 (m:Turn):m.gate 0 = ⟨m.c,m.d,m.a,m.b⟩:=rfl
theorem gate_g1 (m:Turn):m.gate 1 = ⟨Omega.turned m.c 6,Omega.turned m.d 6,Omega.turned m.a 2,Omega.turned m.b 2⟩:=rfl
theorem Pj.gate {m k:Turn} (h:Pj m k) (g:Nat):Pj (m.gate g) (k.gate g):=by
 match g with
 | 0=>
  obtain ⟨a,b,ha,hb,e⟩:=h
  refine ⟨a,b,ha,hb,?_⟩
  injection e with e1 e2 e3 e4
  show (⟨a * m.c,a * m.d,a * m.a,a * m.b⟩:Turn) = ⟨b * k.c,b * k.d,b * k.a,b * k.b⟩
  rw [e1,e2,e3,e4]
 | 1=>
  obtain ⟨a,b,ha,hb,e⟩:=h
  refine ⟨a,b,ha,hb,?_⟩
  injection e with e1 e2 e3 e4
  show (⟨a * Omega.turned m.c 6,a * Omega.turned m.d 6,a * Omega.turned m.a 2,a * Omega.turned m.b 2⟩:Turn) = ⟨b * Omega.turned k.c 6,b * Omega.turned k.d 6,b * Omega.turned k.a 2,b * Omega.turned k.b 2⟩
  rw [<- turned_mul,<- turned_mul,<- turned_mul,<- turned_mul,<- turned_mul,<- turned_mul,<- turned_mul,<- turned_mul,e1,e2,e3,e4]
 | 2=>exact h.turned 4
 | 3=>exact h.mixed
 | 4=>exact h.turned 2
 | 5=>exact h.turned 6
 | 6=>exact h.turned 1
 | n + 7=>exact h.turned 7
theorem Pj.undone {m k:Turn} (h:Pj m k) (w:Text):Pj (m.without w) (k.without w):=by
 unfold Turn.without
 generalize w.reverse=v
 induction v generalizing m k with
 | nil=>exact h
 | cons c w ih=>exact ih (h.gate _)
def Pat (k:Nat) (n:Num) (A B C:Nat->Num):Prop:=∃ e,D (e + k) n /\ ¬ D (e + k + 1) n/\(∀ q,In3 q->D (e + 1) (A q))/\(∀ q,In3 q->D e (B q))/\(∀ q,In3 q->D (e + 1) (B q - C q))/\∃ q,In3 q /\ ¬ D (e + 1) (B q)
def Pre (k:Nat) (n:Num) (X Y Z:Nat->Num):Prop:=∃ e,D (e + k) n /\ ¬ D (e + k + 1) n/\(∀ q,In3 q->D e (X q)/\D e (Y q)/\D e (Z q))/\∃ q,In3 q /\ ¬ D (e + 1) (X q - Y q)
section
variable {k:Nat} {n:Num} {X Y Z A B C X' Y':Nat->Num}
theorem Pat.swap (h:Pat k n A B C):Pat k n A C B:=by
 obtain ⟨e,h1,h2,h3,h4,h5,q0,hq0,h6⟩:=h
 refine ⟨e,h1,h2,h3,fun q hq=>?_,fun q hq=>?_,q0,hq0,fun z=>h6 ?_⟩
 . have:=(h4 q hq).sub ((h5 q hq).le (Nat.le_succ e))
   have g:B q - (B q - C q)=C q:=by grind
   rwa [g] at this
 . have:=(h5 q hq).neg
   have g : -(B q - C q)=C q - B q:=by grind
   rwa [g] at this
 . have:=z.add (h5 q0 hq0)
   have g:C q0 + (B q0 - C q0)=B q0:=by grind
   rwa [g] at this
theorem Pat.third (h:Pat k n A B C):∃ e,D (e + k) n /\ ¬ D (e + k + 1) n/\(∀ q,In3 q->D (e + 1) (A q))/\(∀ q,In3 q->D e (B q))/\(∀ q,In3 q->D e (C q))/\∃ q,In3 q /\ ¬ D (e + 1) (B q):=by
 obtain ⟨e,h1,h2,h3,h4,h5,h6⟩:=h
 refine ⟨e,h1,h2,h3,h4,fun q hq=>?_,h6⟩
 have:=(h4 q hq).sub ((h5 q hq).le (Nat.le_succ e))
 have g:B q - (B q - C q)=C q:=by grind
 rwa [g] at this
theorem Pat.preX (h:Pat k n X Y Z):Pre k n X Y Z:=by
 obtain ⟨e,h1,h2,h3,h4,h5,q0,hq0,h6⟩:=h.third
 refine ⟨e,h1,h2,fun q hq=>⟨(h3 q hq).le (Nat.le_succ e),h4 q hq,h5 q hq⟩,q0,hq0,fun z=>h6 ?_⟩
 have:=(h3 q0 hq0).sub z
 have g:X q0 - (X q0 - Y q0)=Y q0:=by grind
 rwa [g] at this
theorem Pat.preY (h:Pat k n Y X Z):Pre k n X Y Z:=by
 obtain ⟨e,h1,h2,h3,h4,h5,q0,hq0,h6⟩:=h.third
 refine ⟨e,h1,h2,fun q hq=>⟨h4 q hq,(h3 q hq).le (Nat.le_succ e),h5 q hq⟩,q0,hq0,fun z=>h6 ?_⟩
 have:=z.add (h3 q0 hq0)
 have g:X q0 - Y q0 + Y q0=X q0:=by grind
 rwa [g] at this
theorem Pre.up (h:Pre k n X Y Z) (hx:∀ q,rt * X' q=X q - Y q) (hy:∀ q,rt * Y' q=X q + Y q):Pat (k + 1) n Z X' Y':=by
 obtain ⟨e,h1,h2,h3,q0,hq0,h4⟩:=h
 cases e with
 | zero=>
  exact absurd (by rw [<- hx]; exact (D.none _).up1) h4
 | succ e=>
  refine ⟨e,by rw [show e + (k + 1)=e + 1 + k by omega]; exact h1,by rw [show e + (k + 1) + 1=e + 1 + k + 1 by omega]; exact h2,fun q hq=>(h3 q hq).2.2,fun q hq=>?_,fun q hq=>?_,q0,hq0,fun z=>h4 ?_⟩
  . apply D.down1
    rw [hx]
    exact (h3 q hq).1.sub (h3 q hq).2.1
  . apply D.down1
    have g:rt * (X' q - Y' q) = -(2 * Y q):=by
     have a:=hx q
     have b:=hy q
     grind
    rw [g]
    exact ((h3 q hq).2.1.two.le (by omega)).neg
  . rw [<- hx]
    exact z.up1
theorem Pre.up7 (h:Pre k n X Y Z) (hx:∀ q,rt * X' q=X q + Y q) (hy:∀ q,rt * Y' q=Y q - X q):Pat (k + 1) n Z X' Y':=by
 have g:Pre k n X (fun q=>-Y q) Z:=by
  obtain ⟨e,h1,h2,h3,q0,hq0,h4⟩:=h
  refine ⟨e,h1,h2,fun q hq=>⟨(h3 q hq).1,(h3 q hq).2.1.neg,(h3 q hq).2.2⟩,q0,hq0,fun z=>h4 ?_⟩
  rw [D.swap (h3 q0 hq0).2.1]
  have g:X q0 - -Y q0=X q0 + Y q0:=by grind
  rwa [g] at z
 have u:=Pre.up (X':=X') (Y':=fun q=>-Y' q) g (fun q=>by rw [hx]; grind) (fun q=>by have:=hy q; grind)
 obtain ⟨e,h1,h2,h3,h4,h5,h6⟩:=u
 refine ⟨e,h1,h2,h3,h4,fun q hq=>?_,h6⟩
 have c:=h5 q hq
 have c1:D e (-Y' q):=by
  have:=(h4 q hq).sub (c.le (Nat.le_succ e))
  have g:X' q - (X' q - -Y' q) = -Y' q:=by grind
  rwa [g] at this
 rw [D.swap c1] at c
 have g:X' q + -Y' q=X' q - Y' q:=by grind
 rwa [g] at c
end
def Rw (i j:Nat) (A A':Nat->Num):Prop:=(∀ q,rt ^ i * A q=rt ^ j * A' q) \/ (∀ q,rt ^ i * A q = -(rt ^ j * A' q))
theorem Rw.move {i j e f:Nat} {A A':Nat->Num} (h:Rw i j A A') (g:i + e=j + f) (q:Nat):D e (A q) <-> D f (A' q):=by
 rcases h with h | h
 . exact D.move (h q) g
 . rw [<- D.neg_iff (x:=A' q)]
   exact D.move (y:=-A' q) (by rw [h q]; grind) g
theorem Pat.rel {k i j:Nat} {n n':Num} {A B C A' B' C':Nat->Num} (h:Pat k n A B C) (hn:rt ^ i * n=rt ^ j * n') (hA:Rw i j A A') (hB:Rw i j B B') (hC:Rw i j C C'):Pat k n' A' B' C':=by
 obtain ⟨e,h1,h2,h3,h4,h5,q0,hq0,h6⟩:=h
 have room:j<=i + e:=by
  rcases hB with g | g
  . exact D.room (g q0) h6
  . exact D.room (y:=-B' q0) (by rw [g q0]; grind) h6
 obtain ⟨f,hf⟩:=Nat.exists_eq_add_of_le room
 have m4:∀ q,In3 q->D f (B' q):=fun q hq=>(hB.move (by omega) q).mp (h4 q hq)
 have m4C:∀ q,In3 q->D f (C' q):=fun q hq=>by
  have:=(h4 q hq).sub ((h5 q hq).le (Nat.le_succ e))
  have g:B q - (B q - C q)=C q:=by grind
  rw [g] at this
  exact (hC.move (by omega) q).mp this
 refine ⟨f,(D.move hn (by omega)).mp h1,fun z=>h2 ((D.move hn (by omega)).mpr z),fun q hq=>(hA.move (by omega) q).mp (h3 q hq),m4,fun q hq=>?_,q0,hq0,fun z=>h6 ((hB.move (by omega) q0).mpr z)⟩
 have c:=h5 q hq
 have z1:i + (e + 1)=j + (f + 1):=by omega
 rcases hB with b | b <;> rcases hC with d | d
 . exact (D.move (x:=B q - C q) (y:=B' q - C' q) (by have:=b q; have:=d q; grind) z1).mp c
 . rw [D.swap (m4C q hq)]
   exact (D.move (x:=B q - C q) (y:=B' q + C' q) (by have:=b q; have:=d q; grind) z1).mp c
 . rw [D.swap (m4C q hq),<- D.neg_iff]
   exact (D.move (x:=B q - C q) (y:=-(B' q + C' q)) (by have:=b q; have:=d q; grind) z1).mp c
 . rw [<- D.neg_iff]
   exact (D.move (x:=B q - C q) (y:=-(B' q - C' q)) (by have:=b q; have:=d q; grind) z1).mp c
def R (m:Turn) (p:Nat):Nat->Num:=fun q=>m.seen p q
def PatZ (k:Nat) (m:Turn):Prop:=Pat k (m.seen 0 0) (R m 3) (R m 1) (R m 2)
def PatX (k:Nat) (m:Turn):Prop:=Pat k (m.seen 0 0) (R m 1) (R m 2) (R m 3)
def PatY (k:Nat) (m:Turn):Prop:=Pat k (m.seen 0 0) (R m 2) (R m 1) (R m 3)
def PreM (k:Nat) (m:Turn):Prop:=Pre k (m.seen 0 0) (R m 1) (R m 2) (R m 3)
section
variable {k:Nat} {m:Turn}
theorem t_up (h:PreM k m):PatZ (k + 1) (m.turned 1):=by
 have e0:(m.turned 1).seen 0 0=m.seen 0 0:=t_n m (pauli 0)
 have e3:R (m.turned 1) 3=R m 3:=funext fun q=>t_z m (pauli q)
 unfold PatZ
 rw [e0,e3]
 exact Pre.up h (fun q=>t_x m (pauli q)) (fun q=>t_y m (pauli q))
theorem t7_up (h:PreM k m):PatZ (k + 1) (m.turned 7):=by
 have e0:(m.turned 7).seen 0 0=m.seen 0 0:=t7_n m (pauli 0)
 have e3:R (m.turned 7) 3=R m 3:=funext fun q=>t7_z m (pauli q)
 unfold PatZ
 rw [e0,e3]
 exact Pre.up7 h (fun q=>t7_x m (pauli q)) (fun q=>t7_y m (pauli q))
theorem had_rel (m:Turn):∃ i j:Nat,rt ^ i * m.seen 0 0=rt ^ j * m.mixed.seen 0 0/\Rw i j (R m 3) (R m.mixed 1)/\Rw i j (R m 2) (R m.mixed 2)/\Rw i j (R m 1) (R m.mixed 3):=by
 obtain ⟨i,j,s⟩:=(mixed_had m).seen
 have two:∀ x:Num,rt ^ (j + 2) * x=rt ^ j * (2 * x):=fun x=>by rw [pow_add,two_rt]; grind
 refine ⟨j + 2,i,?_,.inl fun q=>?_,.inr fun q=>?_,.inl fun q=>?_⟩
 . rw [s 0 0,two]
   congr 1
   exact (h_n m (pauli 0)).symm
 . show _ * m.seen 3 q=_ * m.mixed.seen 1 q
   rw [s 1 q,two]
   congr 1
   exact (h_x m (pauli q)).symm
 . show _ * m.seen 2 q = -(_ * m.mixed.seen 2 q)
   rw [s 2 q,two]
   have e:(had m).seen 2 q = -(2 * m.seen 2 q):=h_y m (pauli q)
   rw [e]
   grind
 . show _ * m.seen 1 q=_ * m.mixed.seen 3 q
   rw [s 3 q,two]
   congr 1
   exact (h_z m (pauli q)).symm
theorem h_Z (h:PatZ k m):PatX k m.mixed:=by
 obtain ⟨i,j,a,b,c,d⟩:=had_rel m
 exact (Pat.rel h a b d c).swap
theorem h_Y (h:PatY k m):PatY k m.mixed:=by
 obtain ⟨i,j,a,b,c,d⟩:=had_rel m
 exact (Pat.rel h a c d b).swap
theorem rw0 {A B:Nat->Num} (h:∀ q,B q=A q):Rw 0 0 A B:=.inl fun q=>by rw [h q]
theorem rw0n {A B:Nat->Num} (h:∀ q,B q = -A q):Rw 0 0 A B:=.inr fun q=>by rw [h q]; grind
theorem s_X (h:PatX k m):PatY k (m.turned 2):=
 Pat.rel (i:=0) (j:=0) h (by rw [show (m.turned 2).seen 0 0=m.seen 0 0 from s_n m (pauli 0) 2 (.inl rfl)]) (rw0 fun q=>s2_y m (pauli q)) (rw0n fun q=>s2_x m (pauli q)) (rw0 fun q=>s_z m (pauli q) 2 (.inl rfl))
theorem PatZ.cst (h:PatZ k m):Cst k m:=by
 obtain ⟨e,h1,h2,h3,h4,h5,q0,hq0,h6⟩:=h.third
 refine ⟨e,h1,h2,fun p q hp hq=>?_,.inr ⟨1,q0,.inl rfl,hq0,h6⟩⟩
 rcases hp with rfl | rfl | rfl
 . exact h4 q hq
 . exact h5 q hq
 . exact (h3 q hq).le (Nat.le_succ e)
theorem PatX.cst (h:PatX k m):Cst k m:=by
 obtain ⟨e,h1,h2,h3,h4,h5,q0,hq0,h6⟩:=h.third
 refine ⟨e,h1,h2,fun p q hp hq=>?_,.inr ⟨2,q0,.inr (.inl rfl),hq0,h6⟩⟩
 rcases hp with rfl | rfl | rfl
 . exact (h3 q hq).le (Nat.le_succ e)
 . exact h4 q hq
 . exact h5 q hq
theorem PatY.cst (h:PatY k m):Cst k m:=by
 obtain ⟨e,h1,h2,h3,h4,h5,q0,hq0,h6⟩:=h.third
 refine ⟨e,h1,h2,fun p q hp hq=>?_,.inr ⟨1,q0,.inl rfl,hq0,h6⟩⟩
 rcases hp with rfl | rfl | rfl
 . exact h4 q hq
 . exact (h3 q hq).le (Nat.le_succ e)
 . exact h5 q hq
theorem PreM.cst0 (h:PreM 0 m):Cst 0 m:=by
 obtain ⟨e,h1,h2,h3,_⟩:=h
 refine ⟨e,h1,h2,fun p q hp hq=>?_,.inl rfl⟩
 rcases hp with rfl | rfl | rfl
 . exact (h3 q hq).1
 . exact (h3 q hq).2.1
 . exact (h3 q hq).2.2
end
def dB (k:Nat) (x:Num):Bool:=x == zero || decide (k<=val x)
def realB (x:Num):Bool:=bar x == x
theorem dB_iff {k:Nat} {x:Num} (hr:realB x=true):dB k x=true <-> D k x:=by
 have hr:Rl x:=eq_of_beq hr
 unfold dB
 by_cases h:x=0
 . subst h
   exact ⟨fun _=>D.zero k,fun _=>by simp; exact .inl rfl⟩
 . have h':(x == zero)=false:=by
    have h0:x ≠ zero:=h
    simpa using h0
   rw [h',Bool.false_or,decide_eq_true_eq]
   exact val_iff hr h k
def preB (m:Turn):Bool:=let e:=val (m.seen 0 0)
 dB e (m.seen 0 0) && (!dB (e + 1) (m.seen 0 0)) && ([1,2,3].all fun (q:Nat)=>dB e (m.seen 1 q) && dB e (m.seen 2 q) && dB e (m.seen 3 q)) && [1,2,3].any fun (q:Nat)=>realB (m.seen 1 q - m.seen 2 q) && !dB (e + 1) (m.seen 1 q - m.seen 2 q)
theorem realB_seen (m:Turn) {p q:Nat} (hp:p < 4) (hq:q < 4):realB (m.seen p q)=true:=by
 exact beq_iff_eq.mpr (seen_real m hp hq)
theorem preB_ok {m:Turn} (h:preB m=true):PreM 0 m:=by
 unfold preB at h
 simp only [Bool.and_eq_true,Bool.not_eq_true',List.all_eq_true,List.any_eq_true] at h
 obtain ⟨⟨⟨h1,h2⟩,h3⟩,q0,hq0,h4,h5⟩:=h
 have r0:=realB_seen m (p:=0) (q:=0) (by decide) (by decide)
 refine ⟨val (m.seen 0 0),(dB_iff r0).mp h1,fun z=>?_,fun q hq=>?_,q0,by simpa [In3] using hq0,fun z=>?_⟩
 . rw [(dB_iff r0).mpr z] at h2
   cases h2
 . have:=h3 q (by simpa [In3] using hq)
   exact ⟨(dB_iff (realB_seen m (by decide) hq.lt)).mp this.1.1,(dB_iff (realB_seen m (by decide) hq.lt)).mp this.1.2,(dB_iff (realB_seen m (by decide) hq.lt)).mp this.2⟩
 . rw [(dB_iff h4).mpr z] at h5
   cases h5
theorem words_pre:∀ w ∈ WORDS,preB (nothing.done w)=true:=by decide +kernel
inductive Nw:Nat->Text->Prop
 | base {w:Text}:w ∈ WORDS->Nw 0 w
 | th {k:Nat} {w:Text}:Nw k w->Nw (k + 1) (w ++ [T,H])
 | ths {k:Nat} {w:Text}:Nw k w->Nw (k + 1) (w ++ [T,H,S])
theorem done_append (m:Turn) (v w:Text):m.done (v ++ w)=(m.done v).done w:=by
 unfold Turn.done
 rw [List.foldl_append]
theorem done_t (m:Turn):m.done [T]=m.turned 1:=rfl
theorem done_th (m:Turn):m.done [T,H]=(m.turned 1).mixed:=rfl
theorem done_ths (m:Turn):m.done [T,H,S]=((m.turned 1).mixed).turned 2:=rfl
theorem wo_t (m:Turn):m.without [T]=m.turned 7:=rfl
theorem wo_th (m:Turn):m.without [T,H]=(m.mixed).turned 7:=rfl
theorem wo_ths (m:Turn):m.without [T,H,S]=((m.turned 6).mixed).turned 7:=rfl
theorem Nw.pre {k:Nat} {w:Text} (h:Nw k w):PreM k (nothing.done w)/\Cst k (nothing.done w):=by
 induction h with
 | base hw=>
  have:=preB_ok (words_pre _ hw)
  exact ⟨this,this.cst0⟩
 | th _ ih=>
  rw [done_append,done_th]
  have:=h_Z (t_up ih.1)
  exact ⟨Pat.preX this,this.cst⟩
 | ths _ ih=>
  rw [done_append,done_ths]
  have:=s_X (h_Z (t_up ih.1))
  exact ⟨Pat.preY this,this.cst⟩
def okP (p:Num × Num):Bool:=p.1 != zero && p.2 != zero
def likeL (l:List (Num × Num)):Bool:=match l.find? okP with
 | none=>false
 | some q=>l.all fun (p:Num × Num)=>times q.2 p.1 == times q.1 p.2
theorem like_L (m k:Turn):m.like k=likeL [(m.a,k.a),(m.b,k.b),(m.c,k.c),(m.d,k.d)]:=rfl
inductive Rel2 (a b:Num):List (Num × Num)->List (Num × Num)->Prop
 | nil:Rel2 a b [] []
 | cons {p q:Num × Num} {l r:List (Num × Num)}:a * p.1=b * q.1->p.2=q.2->Rel2 a b l r->Rel2 a b (p :: l) (q :: r)
section
variable {a b:Num}
theorem zero_iff (ha:Fac a) (hb:Fac b) {x y:Num} (h:a * x=b * y):x=0 <-> y=0:=by
 constructor
 . rintro rfl
   exact hb.cancel (by rw [<- h]; grind)
 . rintro rfl
   exact ha.cancel (by rw [h]; grind)
theorem okP_eq (ha:Fac a) (hb:Fac b) {p q:Num × Num} (h:a * p.1=b * q.1) (g:p.2=q.2):okP p=okP q:=by
 unfold okP
 rw [g]
 have z:=zero_iff ha hb h
 have z:p.1=zero <-> q.1=zero:=z
 by_cases h1:p.1=zero
 . rw [h1,z.mp h1]
 . have h2:¬ q.1=zero:=fun y=>h1 (z.mpr y)
   rw [bne_iff_ne.mpr h1,bne_iff_ne.mpr h2]
theorem find_rel (ha:Fac a) (hb:Fac b) {l r:List (Num × Num)} (h:Rel2 a b l r) :
 (l.find? okP=none/\r.find? okP=none) \/ ∃ p q,l.find? okP=some p/\r.find? okP=some q/\a * p.1=b * q.1/\p.2=q.2:=by
 induction h with
 | nil=>exact .inl ⟨rfl,rfl⟩
 | @cons p q l r h1 h2 _ ih=>
  have e:=okP_eq ha hb h1 h2
  cases hp:okP p with
  | true=>
   rw [hp] at e
   exact .inr ⟨p,q,by rw [List.find?_cons,hp],by rw [List.find?_cons,<- e],h1,h2⟩
  | false=>
   rw [hp] at e
   rw [List.find?_cons,hp,List.find?_cons,<- e]
   exact ih
theorem all_rel (ha:Fac a) (hb:Fac b) {x y z:Num} (hx:a * x=b * y) {l r:List (Num × Num)} (h:Rel2 a b l r) :
 (l.all fun (p:Num × Num)=>times z p.1 == times x p.2)=r.all fun (p:Num × Num)=>times z p.1 == times y p.2:=by
 induction h with
 | nil=>rfl
 | @cons p q l r h1 h2 _ ih=>
  rw [List.all_cons,List.all_cons,ih]
  congr 1
  rw [Bool.eq_iff_iff,beq_iff_eq,beq_iff_eq,<- mul_def,<- mul_def,<- mul_def,<- mul_def,h2]
  constructor
  . intro e
    exact hb.cancel (by grind)
  . intro e
    exact ha.cancel (by grind)
theorem likeL_rel (ha:Fac a) (hb:Fac b) {l r:List (Num × Num)} (h:Rel2 a b l r):likeL l=likeL r:=by
 unfold likeL
 rcases find_rel ha hb h with ⟨h1,h2⟩ | ⟨p,q,h1,h2,h3,h4⟩
 . rw [h1,h2]
 . rw [h1,h2]
   dsimp only
   rw [h4]
   exact all_rel ha hb h3 h
end
theorem Pj.like {m k:Turn} (h:Pj m k) (l:Turn):m.like l=k.like l:=by
 obtain ⟨a,b,ha,hb,e⟩:=h
 injection e with e1 e2 e3 e4
 rw [like_L,like_L]
 exact likeL_rel ha hb (.cons e1 rfl (.cons e2 rfl (.cons e3 rfl (.cons e4 rfl .nil))))
theorem words_find:∀ v ∈ WORDS,(WORDS.find? fun (w:Text)=>(nothing.done v).like (nothing.done w))=some v:=by decide +kernel
theorem om8:om ^ 7 * om ^ 1=(1:Num):=by decide
theorem t_undo (m:Turn):(m.turned 1).turned 7=m:=by
 have e:∀ x:Num,turned (turned x 1) 7=x:=fun x=>by
  rw [turned_om,turned_om]
  show om ^ 7 * (om ^ 1 * x)=x
  have:=om8
  grind
 show (⟨m.a,m.b,turned (turned m.c 1) 7,turned (turned m.d 1) 7⟩:Turn)=m
 rw [e,e]
theorem s_undo (m:Turn):(m.turned 2).turned 6=m:=by
 have g:om ^ 6 * om ^ 2=(1:Num):=by decide
 have e:∀ x:Num,turned (turned x 2) 6=x:=fun x=>by
  rw [turned_om,turned_om]
  show om ^ 6 * (om ^ 2 * x)=x
  grind
 show (⟨m.a,m.b,turned (turned m.c 2) 6,turned (turned m.d 2) 6⟩:Turn)=m
 rw [e,e]
theorem had_had (m:Turn):had (had m)=allBy (rt ^ 2) m:=by
 have e1:∀ x y:Num,x + y + (x - y)=rt ^ 2 * x:=fun x y=>by rw [<- two_rt]; grind
 have e2:∀ x y:Num,x + y - (x - y)=rt ^ 2 * y:=fun x y=>by rw [<- two_rt]; grind
 show (⟨m.a + m.c + (m.a - m.c),m.b + m.d + (m.b - m.d),m.a + m.c - (m.a - m.c),m.b + m.d - (m.b - m.d)⟩:Turn) = ⟨rt ^ 2 * m.a,rt ^ 2 * m.b,rt ^ 2 * m.c,rt ^ 2 * m.d⟩
 rw [e1,e1,e2,e2]
theorem h_undo (m:Turn):Pj m.mixed.mixed m:=by
 have h1:Pj m.mixed.mixed (had (had m)):=(mixed_had m.mixed).trans (mixed_had m).had
 rw [had_had] at h1
 exact h1.trans (Pj.by (Fac.rt 2) m)
theorem undo_t (m:Turn):Pj ((m.done [T]).without [T]) m:=by
 rw [done_t,wo_t,t_undo]
 exact Pj.refl m
theorem undo_th (m:Turn):Pj ((m.done [T,H]).without [T,H]) m:=by
 rw [done_th,wo_th]
 have:=(h_undo (m.turned 1)).turned 7
 rwa [t_undo] at this
theorem undo_ths (m:Turn):Pj ((m.done [T,H,S]).without [T,H,S]) m:=by
 rw [done_ths,wo_ths,s_undo]
 have:=(h_undo (m.turned 1)).turned 7
 rwa [t_undo] at this
theorem wf_zero (ends:List Text) (m:Turn):wordFrom 0 ends m=(WORDS.find? fun (w:Text)=>m.like (nothing.done w)).getD []:=rfl
theorem wf_succ {n:Nat} {ends:List Text} {m:Turn} {e:Text} (h:(ends.find? fun (e:Text)=>decide ((m.without e).cost < m.cost))=some e):wordFrom (n + 1) ends m=wordFrom n [[T,H],[T,H,S]] (m.without e) ++ e:=by
 rw [wordFrom,h]
theorem yes_of {k:Nat} {m v:Turn} (h:Cst (k + 1) m) (g:Cst k v):decide (v.cost < m.cost)=true:=by
 rw [h.cost,g.cost]
 simp
theorem no_of {k j:Nat} {m v:Turn} (h:Cst k m) (g:Cst j v) (l:k<=j):decide (v.cost < m.cost)=false:=by
 rw [h.cost,g.cost]
 simpa using l
def Ends (l:List Text):Prop:=l=[[T,H],[T,H,S]] \/ l=[[T],[T,H],[T,H,S]]
theorem Nw.word {k:Nat} {w:Text} (h:Nw k w):∀ {m:Turn} {ends:List Text},Pj m (nothing.done w)->Ends ends->wordFrom k ends m=w:=by
 induction h with
 | base hw=>
  intro m ends g _
  rw [wf_zero]
  have e:(fun (w:Text)=>m.like (nothing.done w))=fun w=>(nothing.done _).like (nothing.done w):=funext fun w=>g.like (nothing.done w)
  rw [e,words_find _ hw]
  rfl
 | @th k w h ih=>
  intro m ends g he
  have c:=(Nw.th h).pre.2.pj g.symm
  have pre:=h.pre.1
  rw [done_append] at g
  have px:PatX (k + 1) ((nothing.done w).done [T,H]):=by
   rw [done_th]
   exact h_Z (t_up pre)
  -- the right end
  have g1:Pj (m.without [T,H]) (nothing.done w):=(g.undone _).trans (undo_th _)
  have y1:=yes_of c (h.pre.2.pj g1.symm)
  -- t alone
  have z1:Cst (k + 1 + 1) (m.without [T]):=by
   have:Cst (k + 1 + 1) (((nothing.done w).done [T,H]).without [T]):=by
    rw [wo_t]
    exact (t7_up (Pat.preX px)).cst
   exact this.pj (g.undone _).symm
  have n1:=no_of c z1 (by omega)
  have f:(ends.find? fun (e:Text)=>decide ((m.without e).cost < m.cost))=some [T,H]:=by
   rcases he with rfl | rfl
   . rw [List.find?_cons,y1]
   . rw [List.find?_cons,n1]
     dsimp only
     rw [List.find?_cons,y1]
  rw [wf_succ f,ih g1 (.inl rfl)]
 | @ths k w h ih=>
  intro m ends g he
  have c:=(Nw.ths h).pre.2.pj g.symm
  have pre:=h.pre.1
  rw [done_append] at g
  have py:PatY (k + 1) ((nothing.done w).done [T,H,S]):=by
   rw [done_ths]
   exact s_X (h_Z (t_up pre))
  have g1:Pj (m.without [T,H,S]) (nothing.done w):=(g.undone _).trans (undo_ths _)
  have y1:=yes_of c (h.pre.2.pj g1.symm)
  have z1:Cst (k + 1 + 1) (m.without [T]):=by
   have:Cst (k + 1 + 1) (((nothing.done w).done [T,H,S]).without [T]):=by
    rw [wo_t]
    exact (t7_up (Pat.preY py)).cst
   exact this.pj (g.undone _).symm
  have n1:=no_of c z1 (by omega)
  have z2:Cst (k + 1 + 1) (m.without [T,H]):=by
   have:Cst (k + 1 + 1) (((nothing.done w).done [T,H,S]).without [T,H]):=by
    rw [wo_th]
    exact (t7_up (Pat.preY (h_Y py))).cst
   exact this.pj (g.undone _).symm
  have n2:=no_of c z2 (by omega)
  have f:(ends.find? fun (e:Text)=>decide ((m.without e).cost < m.cost))=some [T,H,S]:=by
   rcases he with rfl | rfl
   . rw [List.find?_cons,n2]
     dsimp only
     rw [List.find?_cons,y1]
   . rw [List.find?_cons,n1]
     dsimp only
     rw [List.find?_cons,n2]
     dsimp only
     rw [List.find?_cons,y1]
  rw [wf_succ f,ih g1 (.inl rfl)]
inductive Shape:Text->Prop
 | whole {k:Nat} {w:Text}:Nw k w->Shape w
 | t {k:Nat} {w:Text}:Nw k w->Shape (w ++ [T])
theorem word_of {w:Text} (h:Shape w) {m:Turn} (g:Pj m (nothing.done w)):wordFrom m.cost [[T],[T,H],[T,H,S]] m=w:=by
 cases h with
 | whole h=>
  have c:=h.pre.2.pj g.symm
  rw [c.cost]
  exact h.word g (.inr rfl)
 | @t k w h=>
  rw [done_append] at g
  have pz:PatZ (k + 1) ((nothing.done w).done [T]):=by
   rw [done_t]
   exact t_up h.pre.1
  have c:Cst (k + 1) m:=pz.cst.pj g.symm
  have g1:Pj (m.without [T]) (nothing.done w):=(g.undone _).trans (undo_t _)
  have y1:=yes_of c (h.pre.2.pj g1.symm)
  rw [c.cost,wf_succ (e:=[T]) (by rw [List.find?_cons,y1]),h.word g1 (.inl rfl)]
theorem times_a (m k:Turn):(m.times k).a=m.a * k.a + m.b * k.c:=rfl
theorem times_b (m k:Turn):(m.times k).b=m.a * k.b + m.b * k.d:=rfl
theorem times_c (m k:Turn):(m.times k).c=m.c * k.a + m.d * k.c:=rfl
theorem times_d (m k:Turn):(m.times k).d=m.c * k.b + m.d * k.d:=rfl
theorem turn_ext {m k:Turn} (h1:m.a=k.a) (h2:m.b=k.b) (h3:m.c=k.c) (h4:m.d=k.d):m=k:=by
 cases m
 cases k
 simp_all
theorem turned_add (x y:Num) (j:Int):turned (x + y) j=turned x j + turned y j:=by
 simp only [turned_om]
 grind
theorem turned_mulr (x y:Num) (j:Int):turned (x * y) j=turned x j * y:=by
 simp only [turned_om]
 grind
theorem times_turned (m k:Turn) (j:Int):(m.times k).turned j=(m.turned j).times k:=by
 apply turn_ext
 . rfl
 . rfl
 . show turned (m.c * k.a + m.d * k.c) j=turned m.c j * k.a + turned m.d j * k.c
   rw [turned_add,turned_mulr,turned_mulr]
 . show turned (m.c * k.b + m.d * k.d) j=turned m.c j * k.b + turned m.d j * k.d
   rw [turned_add,turned_mulr,turned_mulr]
theorem times_had (m k:Turn):had (m.times k)=(had m).times k:=by
 apply turn_ext
 . show m.a * k.a + m.b * k.c + (m.c * k.a + m.d * k.c)=(m.a + m.c) * k.a + (m.b + m.d) * k.c
   grind
 . show m.a * k.b + m.b * k.d + (m.c * k.b + m.d * k.d)=(m.a + m.c) * k.b + (m.b + m.d) * k.d
   grind
 . show m.a * k.a + m.b * k.c - (m.c * k.a + m.d * k.c)=(m.a - m.c) * k.a + (m.b - m.d) * k.c
   grind
 . show m.a * k.b + m.b * k.d - (m.c * k.b + m.d * k.d)=(m.a - m.c) * k.b + (m.b - m.d) * k.d
   grind
theorem times_all (a:Num) (m k:Turn):(allBy a m).times k=allBy a (m.times k):=by
 apply turn_ext
 . show a * m.a * k.a + a * m.b * k.c=a * (m.a * k.a + m.b * k.c)
   grind
 . show a * m.a * k.b + a * m.b * k.d=a * (m.a * k.b + m.b * k.d)
   grind
 . show a * m.c * k.a + a * m.d * k.c=a * (m.c * k.a + m.d * k.c)
   grind
 . show a * m.c * k.b + a * m.d * k.d=a * (m.c * k.b + m.d * k.d)
   grind
theorem Pj.times {m n:Turn} (h:Pj m n) (k:Turn):Pj (m.times k) (n.times k):=by
 obtain ⟨a,b,ha,hb,e⟩:=h
 exact ⟨a,b,ha,hb,by rw [<- times_all,<- times_all,e]⟩
theorem times_gate (m k:Turn) (g:Nat):Pj ((m.times k).gate g) ((m.gate g).times k):=by
 match g with
 | 0=>exact Pj.refl _
 | 1=>
  have e:(m.times k).gate 1=(m.gate 1).times k:=by
   apply turn_ext
   . show turned (m.c * k.a + m.d * k.c) 6=turned m.c 6 * k.a + turned m.d 6 * k.c
     rw [turned_add,turned_mulr,turned_mulr]
   . show turned (m.c * k.b + m.d * k.d) 6=turned m.c 6 * k.b + turned m.d 6 * k.d
     rw [turned_add,turned_mulr,turned_mulr]
   . show turned (m.a * k.a + m.b * k.c) 2=turned m.a 2 * k.a + turned m.b 2 * k.c
     rw [turned_add,turned_mulr,turned_mulr]
   . show turned (m.a * k.b + m.b * k.d) 2=turned m.a 2 * k.b + turned m.b 2 * k.d
     rw [turned_add,turned_mulr,turned_mulr]
  rw [e]
  exact Pj.refl _
 | 2=>exact times_turned m k 4 ▸ Pj.refl _
 | 3=>
  have h1:=mixed_had (m.times k)
  rw [times_had] at h1
  exact h1.trans ((mixed_had m).times k).symm
 | 4=>exact times_turned m k 2 ▸ Pj.refl _
 | 5=>exact times_turned m k 6 ▸ Pj.refl _
 | 6=>exact times_turned m k 1 ▸ Pj.refl _
 | n + 7=>exact times_turned m k 7 ▸ Pj.refl _
theorem one_times (k:Turn):nothing.times k=k:=by
 apply turn_ext
 . show (1:Num) * k.a + 0 * k.c=k.a
   grind
 . show (1:Num) * k.b + 0 * k.d=k.b
   grind
 . show (0:Num) * k.a + 1 * k.c=k.c
   grind
 . show (0:Num) * k.b + 1 * k.d=k.d
   grind
def acts (l:List Nat) (m:Turn):Turn:=l.foldl (fun (r:Turn) (g:Nat)=>r.gate g) m
theorem Pj.acts {m k:Turn} (h:Pj m k) (l:List Nat):Pj (acts l m) (OmForm.acts l k):=by
 unfold OmForm.acts
 induction l generalizing m k with
 | nil=>exact h
 | cons g l ih=>exact ih (h.gate g)
theorem acts_append (l r:List Nat) (m:Turn):acts (l ++ r) m=acts r (acts l m):=by
 unfold acts
 rw [List.foldl_append]
theorem acts_times (l:List Nat) (m k:Turn):Pj (acts l (m.times k)) ((acts l m).times k):=by
 induction l generalizing m with
 | nil=>exact Pj.refl _
 | cons g l ih=>exact ((times_gate m k g).acts l).trans (ih (m.gate g))
theorem acts_any {l r:List Nat} (h:Pj (acts l nothing) (acts r nothing)) (k:Turn):Pj (acts l k) (acts r k):=by
 have a:=acts_times l nothing k
 have b:=acts_times r nothing k
 rw [one_times] at a b
 exact a.trans ((h.times k).trans b.symm)
theorem acts_mid {l r:List Nat} (h:Pj (acts l nothing) (acts r nothing)) (p q:List Nat) (k:Turn):Pj (acts (p ++ l ++ q) k) (acts (p ++ r ++ q) k):=by
 rw [acts_append,acts_append,acts_append,acts_append]
 exact (acts_any h _).acts q
def gatesOf (w:Text):List Nat:=w.map fun (c:Nat)=>(letter c).getD 0
theorem done_acts (m:Turn) (w:Text):m.done w=acts (gatesOf w) m:=by
 unfold Turn.done acts gatesOf
 rw [List.foldl_map]
theorem fold_acts (l:List Step) (m:Turn):l.foldl (fun (r:Turn) (x:Step)=>r.gate x.1) m=acts (l.map (·.1)) m:=by
 unfold acts
 rw [List.foldl_map]
theorem wordOf_is {l:List Step} {w:Text} (h:Shape w) (g:Pj (acts (l.map (·.1)) nothing) (acts (gatesOf w) nothing)):wordOf l=w:=by
 unfold wordOf
 rw [fold_acts]
 exact word_of h (by rw [done_acts]; exact g)
def eqT (m k:Turn):Bool:=m.a == k.a && (m.b == k.b && (m.c == k.c && m.d == k.d))
theorem eqT_ok {m k:Turn} (h:eqT m k=true):m=k:=by
 unfold eqT at h
 simp only [Bool.and_eq_true,beq_iff_eq] at h
 exact turn_ext h.1 h.2.1 h.2.2.1 h.2.2.2
def pjB (m k:Turn):Bool:=(List.range 8).any fun (t:Nat)=>(List.range 4).any fun (i:Nat)=>(List.range 4).any fun (j:Nat)=>eqT (allBy (om ^ t * rt ^ i) m) (allBy (rt ^ j) k)
theorem pjB_ok {m k:Turn} (h:pjB m k=true):Pj m k:=by
 unfold pjB at h
 simp only [List.any_eq_true] at h
 obtain ⟨t,_,i,_,j,_,e⟩:=h
 exact ⟨_,_,⟨t,i,rfl⟩,⟨0,j,by rw [pow_z]; grind⟩,eqT_ok e⟩
abbrev Eff:=Int × Int × Int
def axAt (e:Eff) (k:Int):Int:=if k=0 then e.1 else if k=1 then e.2.1 else e.2.2
def ax (e:Eff) (a:Int):Int:=if 0 < a then axAt e (a - 1) else -axAt e (-a - 1)
def followed (f s:Eff):Eff:=(ax s f.1,ax s f.2.1,ax s f.2.2)
def effG (g:Nat):Eff:=if g=0 then (1,-2,-3) else if g=1 then (-1,2,-3) else if g=2 then (-1,-2,3) else if g=3 then (3,-2,1) else if g=4 then (2,-1,3) else (-2,1,3)
def effOf (w:Text):Eff:=w.foldl (fun e c=>followed e (effG (if c=H then 3 else 4))) (1,2,3)
def EFFS:List Eff:=WORDS.map effOf
def wd (e:Eff):Text:=((WORDS.filter fun w=>decide (effOf w=e)).head?).getD []
def piece (a:Int):Text:=if a=1 then [T,H] else if a=2 then [T,H,S] else [T]
def behind (a:Int):Eff:=if a=1 then (3,-2,1) else if a=2 then (3,1,2) else (1,2,3)
def unThat (a:Int):Eff:=if a=1 then (3,-2,1) else if a=2 then (2,3,1) else (1,2,3)
def ahead1 (g:Nat) (e:Eff):Eff:=if g=7 then followed (effG 5) e else e
def ahead2 (e:Eff):Eff:=if e.2.2 < 0 then followed (effG 4) e else e
def ahead (g:Nat) (e:Eff):Eff:=ahead2 (ahead1 g e)
def axis (e:Eff):Int:=(e.2.2.natAbs:Int)
def withT (g:Nat) (e:Eff) (ps:List Int):Eff × List Int:=
 if axis (ahead g e)=3 then (match ps with
  | p :: r=>(followed (followed (ahead g e) (effG 4)) (behind p),r)
  | []=>(followed (ahead g e) (unThat 3),[3]))
 else (followed (ahead g e) (unThat (axis (ahead g e))),axis (ahead g e) :: ps)
def stepW (g:Nat) (s:Eff × List Int):Eff × List Int:=if g < 6 then (followed (effG g) s.1,s.2) else withT g s.1 s.2
def tailW (ps:List Int):Text:=ps.flatMap piece
def byW (l:List Nat):Eff × List Int:=l.foldr stepW ((1,2,3),[])
def wordBy (l:List Nat):Text:=wd (byW l).1 ++ tailW (byW l).2
theorem t_cliff:∀ e ∈ EFFS,∀ g < 6,followed (effG g) e ∈ EFFS/\pjB (acts (g :: gatesOf (wd e)) nothing) (acts (gatesOf (wd (followed (effG g) e))) nothing)=true:=by decide +kernel
theorem t_new:∀ e ∈ EFFS,∀ g ∈ [6,7],(axis (ahead g e)=1 \/ axis (ahead g e)=2 \/ axis (ahead g e)=3)/\followed (ahead g e) (unThat (axis (ahead g e))) ∈ EFFS/\pjB (acts (g :: gatesOf (wd e)) nothing) (acts (gatesOf (wd (followed (ahead g e) (unThat (axis (ahead g e)))) ++ piece (axis (ahead g e)))) nothing)=true:=by decide +kernel
theorem t_meet:∀ e ∈ EFFS,∀ g ∈ [6,7],axis (ahead g e)=3->∀ p ∈ [(1:Int),2,3],followed (followed (ahead g e) (effG 4)) (behind p) ∈ EFFS/\pjB (acts (g :: gatesOf (wd e ++ piece p)) nothing) (acts (gatesOf (wd (followed (followed (ahead g e) (effG 4)) (behind p)))) nothing)=true:=by decide +kernel
theorem t_wd:∀ e ∈ EFFS,wd e ∈ WORDS/\(WORDS.filter fun w=>decide (effOf w=e))=[wd e]:=by decide +kernel
inductive PsOk:List Int->Prop
 | nil:PsOk []
 | three:PsOk [3]
 | one {ps:List Int}:PsOk ps->PsOk (1 :: ps)
 | two {ps:List Int}:PsOk ps->PsOk (2 :: ps)
theorem PsOk.mem {ps:List Int} (h:PsOk ps):∀ p ∈ ps,p ∈ [(1:Int),2,3]:=by
 induction h with
 | nil=>intro p hp; cases hp
 | three=>intro p hp; simp at hp; simp [hp]
 | one _ ih=>
  intro p hp
  rcases List.mem_cons.mp hp with e | e
  . simp [e]
  . exact ih p e
 | two _ ih=>
  intro p hp
  rcases List.mem_cons.mp hp with e | e
  . simp [e]
  . exact ih p e
theorem PsOk.tl {p:Int} {ps:List Int} (h:PsOk (p :: ps)):PsOk ps:=by
 cases h with
 | three=>exact .nil
 | one h=>exact h
 | two h=>exact h
structure InvW (l:List Nat) (s:Eff × List Int):Prop where
 e:s.1 ∈ EFFS
 ps:PsOk s.2
 pj:Pj (acts l nothing) (acts (gatesOf (wd s.1 ++ tailW s.2)) nothing)
theorem gatesOf_append (v w:Text):gatesOf (v ++ w)=gatesOf v ++ gatesOf w:=by unfold gatesOf; rw [List.map_append]
theorem swapW {g:Nat} {u v t:Text} (h:pjB (acts (g :: gatesOf u) nothing) (acts (gatesOf v) nothing)=true):Pj (acts (g :: gatesOf (u ++ t)) nothing) (acts (gatesOf (v ++ t)) nothing):=by
 have:=acts_mid (pjB_ok h) [] (gatesOf t) nothing
 rw [gatesOf_append,gatesOf_append]
 exact this
theorem InvW.step {l:List Nat} {s:Eff × List Int} (h:InvW l s) {g:Nat} (hg:g < 8):InvW (g :: l) (stepW g s):=by
 have a:Pj (acts (g :: l) nothing) (acts (g :: gatesOf (wd s.1 ++ tailW s.2)) nothing):=acts_any h.pj (acts [g] nothing)
 unfold stepW
 split
 . rename_i h6
   obtain ⟨e,p⟩:=t_cliff s.1 h.e g h6
   exact ⟨e,h.ps,a.trans (swapW p)⟩
 . have hm:g ∈ [6,7]:=by
    have:g=6 \/ g=7:=by omega
    rcases this with e | e <;> subst e <;> decide
   obtain ⟨x,e,p⟩:=t_new s.1 h.e g hm
   unfold withT
   split
   . rename_i h3
     obtain ⟨eff,ps⟩:=s
     cases ps with
     | nil=>
      simp only [h3] at e p
      refine ⟨e,.three,a.trans ?_⟩
      have:=swapW (t:=[]) p
      simpa [tailW] using this
     | cons q r=>
      obtain ⟨e,p⟩:=t_meet eff h.e g hm h3 q (h.ps.mem q List.mem_cons_self)
      refine ⟨e,h.ps.tl,a.trans ?_⟩
      have:=swapW (t:=tailW r) p
      rw [List.append_assoc] at this
      exact this
   . rename_i h3
     refine ⟨e,?_,a.trans ?_⟩
     . rcases x with z | z | z
       . show PsOk (axis (ahead g s.1) :: s.2); rw [z]; exact .one h.ps
       . show PsOk (axis (ahead g s.1) :: s.2); rw [z]; exact .two h.ps
       . exact absurd z h3
     . have:=swapW (t:=tailW s.2) p
       rw [List.append_assoc] at this
       exact this
theorem inv_by:∀ (l:List Nat),(∀ g ∈ l,g < 8)->InvW l (byW l)
 | [],_=>⟨by decide +kernel,.nil,by
  have:gatesOf (wd (byW []).1 ++ tailW (byW []).2)=[]:=by decide +kernel
  rw [this]; exact Pj.refl _⟩
 | g :: l,h=>(inv_by l fun x hx=>h x (List.mem_cons_of_mem _ hx)).step (h g List.mem_cons_self)
theorem Nw.front {ps:List Int} (h:PsOk ps):∀ {k:Nat} {w:Text},Nw k w->Shape (w ++ tailW ps):=by
 induction h with
 | nil=>intro k w n; rw [show tailW []=[] from rfl,List.append_nil]; exact .whole n
 | three=>intro k w n; exact .t n
 | @one ps _ ih=>
  intro k w n
  have:=ih (.th n)
  rw [List.append_assoc] at this
  exact this
 | @two ps _ ih=>
  intro k w n
  have:=ih (.ths n)
  rw [List.append_assoc] at this
  exact this
theorem word_by {l:List Step} (h:∀ x ∈ l,x.1 < 8):wordOf l=wordBy (l.map (·.1)):=by
 have i:=inv_by (l.map (·.1)) (fun g hg=>by
  obtain ⟨x,hx,rfl⟩:=List.mem_map.mp hg
  exact h x hx)
 exact wordOf_is (Nw.front i.ps (.base (t_wd _ i.e).1)) i.pj
end OmForm
end
section
namespace Q
open PySem PySem.Spec PyProof.Rows L2 Omega OmMath
open OmForm (Eff followed effG effOf wd piece behind unThat ahead ahead1 ahead2 axis withT stepW byW wordBy tailW PsOk EFFS axAt ax)
def TValAt (K:PySem.W.Frag) (kv:Int × V) (kt:Int × List Int):Prop:=kv.1=kt.1/\∃ r,kv.2 = .ref r/\∀ H,SqT K H r (kt.2.map V.int)
def TDic (K:PySem.W.Frag) (mg:Str->Option Value) (x:Str) (kts:List (Int × List Int)):Prop:=∃ a kvs,DicAt K mg x a kvs/\Paired (TValAt K) kvs kts
def lookT:List (Int × List Int)->Int->Option (List Int)
 | [],_=>none
 | p :: r,n=>if p.1=n then some p.2 else lookT r n
theorem tval_some {K:PySem.W.Frag} {n:Int} {ns:List Int}:∀ {kvs:List (Int × V)} {kts:List (Int × List Int)},Paired (TValAt K) kvs kts->lookT kts n=some ns->∃ r,valV (keyed kvs) (Sum.inl n)=some (.ref r)/\∀ H,SqT K H r (ns.map V.int)
 | _,_,.nil,h=>by cases h
 | _,_,.cons (a:=a) (b:=b) (l₁:=l) r t,h=>by
  obtain ⟨e,r',e2,hs⟩:=r
  unfold lookT at h
  by_cases z:b.1=n
  . rw [if_pos z] at h
    cases h
    refine ⟨r',?_,hs⟩
    show valV (((Sum.inl a.1:Key),a.2) :: keyed l) (Sum.inl n)=_
    rw [valV_pos (show (Sum.inl a.1:Key)=Sum.inl n by rw [e,z]),e2]
  . rw [if_neg z] at h
    obtain ⟨r2,h1,h2⟩:=tval_some t h
    refine ⟨r2,?_,h2⟩
    show valV (((Sum.inl a.1:Key),a.2) :: keyed l) (Sum.inl n)=_
    rw [valV_neg (show ¬ (Sum.inl a.1:Key)=Sum.inl n from fun q=>z (by injection q with q; rw [<- e,q])),h1]
theorem tval_is {K:PySem.W.Frag} {n:Int}:∀ {kvs:List (Int × V)} {kts:List (Int × List Int)},Paired (TValAt K) kvs kts->(valV (keyed kvs) (Sum.inl n)).isSome=(lookT kts n).isSome
 | _,_,.nil=>rfl
 | _,_,.cons (a:=a) (b:=b) (l₁:=l) r t=>by
  obtain ⟨e,r',e2,hs⟩:=r
  show (valV (((Sum.inl a.1:Key),a.2) :: keyed l) (Sum.inl n)).isSome=_
  unfold lookT
  by_cases z:b.1=n
  . rw [if_pos z,valV_pos (show (Sum.inl a.1:Key)=Sum.inl n by rw [e,z])]
    rfl
  . rw [if_neg z,valV_neg (show ¬ (Sum.inl a.1:Key)=Sum.inl n from fun q=>z (by injection q with q; rw [<- e,q]))]
    exact tval_is t
section
variable {X:Cx} {i:Expr} {ty:TE} {x:Str} {kts:List (Int × List Int)} {p pos:Pos}
def tTopT (K:PySem.W.Frag) (kts:List (Int × List Int)) (ty:TE):TE:=fun σ H Q=>ty σ H fun y H1=>∃ n ns,y = .int n/\lookT kts n=some ns/\∀ r,(∀ H,SqT K H r (ns.map V.int))->Q (.ref r) H1
theorem pe_topT (K:PySem.W.Frag) (D:TDic K X.mg x kts) (hg:Gl X x) (hi:PE X i ty) (hs:NoSl i) (hK:X.K=K:=by rfl) (hd:(x == ("__debug__" : Str))=false:=by decide):PE X (.Subscript (.Name x p) i pos) (tTopT K kts ty):=by
 subst hK
 obtain ⟨a,kvs,D,R⟩:=D
 intro pins s σ H Q I h
 refine subD_of PySem.F.slot_dict_getitem.lookup hs (ld_glob I hg D.m (thn (hi pins s σ H _ I h) fun iv s2 ⟨y,H2,I2,ry,n,ns,ey,hv,q⟩=>?_) hd)
 subst ey
 obtain ⟨r,hval,hsq⟩:=tval_some R hv
 obtain ⟨vs,rel,dd⟩:=D.at_ X.prog X.w s2.heap I2.kIn
 obtain ⟨w',hw,rw'⟩:=RelO.some_of (v:=.ref r) (o:=valueAt vs (Sum.inl n)) (by rw [<- hval]; exact rel.val _)
 exact ⟨dd.typeIs,wpAny_getItem_of (kV_is (k:=Sum.inl n) ry) dd.mapOf hw ⟨.ref r,H2,I2.tok _,rw',q r hsq⟩⟩
def tTopInT (kts:List (Int × List Int)) (ty:TE):TE:=fun σ H Q=>ty σ H fun y H1=>∃ n,y = .int n/\Q (.bl (lookT kts n).isSome) H1
theorem pc_topInT (K:PySem.W.Frag) (D:TDic K X.mg x kts) (hg:Gl X x) (hi:PE X i ty) (hK:X.K=K:=by rfl) (hd:(x == ("__debug__" : Str))=false:=by decide):PC X .In i (.Name x p) (tTopInT kts ty):=by
 subst hK
 obtain ⟨a,kvs,D,R⟩:=D
 intro pins s σ H Q I h
 refine thn (hi pins s σ H _ I h) fun iv s1 ⟨y,H1,I1,ry,n,ey,q⟩=>ld_glob I1 hg D.m ?_ hd
 subst ey
 obtain ⟨vs,rel,dd⟩:=D.at_ X.prog X.w s1.heap I1.kIn
 refine wpAny_in_of (kV_is (k:=Sum.inl n) ry) D.ne dd.mapOf ?_
 rw [<- (rel.val (Sum.inl n)).isSome_eq,tval_is R]
 exact ⟨.bl _,H1,I1.tok _,rfl,q⟩
end
theorem for_str {x:Str} {g:TG} {tb:TS} {D:Ends} {σ:L2.St} {H:Hp} (Pv:Nat->L2.St->Hp->Prop) (h0:Pv 0 σ H)
 (hs:∀ i c σ H,x.cps[i]? = some c->Pv i σ H->g (.str ⟨#[c]⟩) σ H fun σ2 H2=>tb { D with nx:=Pv (i + 1),ct:=Pv (i + 1),bk:=D.nx } σ2 H2) (hd:∀ σ H,Pv x.cps.size σ H->D.nx σ H) :
 ∃ W:Nat->Nat->L2.St->Hp->Prop,(∃ m,W 0 m σ H)/\∀ i m σ H,W i m σ H ->
  ((Its x).stop i H/\D.nx σ H) \/ ((Its x).go i H/\∃ N:L2.St->Hp->Prop,(∀ σ' H',N σ' H'->∃ m',m' < m/\W (i + 1) m' σ' H')/\∀ y H',(Its x).yld i H y H'->g y σ H' fun σ2 H2=>tb { D with nx:=N,ct:=N,bk:=D.nx } σ2 H2):=by
 refine ⟨fun i m σ H=>m=x.cps.size - i/\i<=x.cps.size/\Pv i σ H,⟨x.cps.size,by simp,Nat.zero_le _,h0⟩,?_⟩
 rintro i m σ H ⟨rfl,hi,p⟩
 by_cases hlt:i < x.cps.size
 . refine .inr ⟨hlt,Pv (i + 1),fun σ' H' p'=>⟨x.cps.size - (i + 1),by omega,rfl,hlt,p'⟩,fun y H' q=>?_⟩
   obtain ⟨e,c,hc,ey⟩:=q
   subst e ey
   exact hs i c σ _ hc p
 . have e:i=x.cps.size:=by omega
   subst e
   exact .inl ⟨Nat.le_refl _,hd σ H p⟩
theorem for_rev {K:PySem.W.Frag} {a:Addr} {xs:List V} {g:TG} {tb:TS} {D:Ends} {σ:L2.St} {H:Hp} (Pv:Nat->L2.St->Hp->Prop) (h0:Pv 0 σ H) (hl:∀ i σ H,i<=xs.length->Pv i σ H->SqL K H a xs)
 (hs:∀ i x σ H,i < xs.length->xs[xs.length - 1 - i]? = some x->Pv i σ H->g x σ H fun σ2 H2=>tb { D with nx:=Pv (i + 1),ct:=Pv (i + 1),bk:=D.nx } σ2 H2) (hd:∀ σ H,Pv xs.length σ H->D.nx σ H) :
 ∃ W:Nat->Nat->L2.St->Hp->Prop,(∃ m,W 0 m σ H)/\∀ i m σ H,W i m σ H ->
  ((Itv K a xs.length).stop i H/\D.nx σ H) \/ ((Itv K a xs.length).go i H/\∃ N:L2.St->Hp->Prop,(∀ σ' H',N σ' H'->∃ m',m' < m/\W (i + 1) m' σ' H')/\∀ x H',(Itv K a xs.length).yld i H x H'->g x σ H' fun σ2 H2=>tb { D with nx:=N,ct:=N,bk:=D.nx } σ2 H2):=by
 refine ⟨fun i m σ H=>m=xs.length - i/\i<=xs.length/\Pv i σ H,⟨xs.length,by simp,Nat.zero_le _,h0⟩,?_⟩
 rintro i m σ H ⟨rfl,hi,p⟩
 have q:=hl i σ H hi p
 by_cases hlt:i < xs.length
 . have hlt':xs.length - 1 - i < xs.length:=by omega
   refine .inr ⟨⟨hlt,xs,xs[xs.length - 1 - i],q,List.getElem?_eq_getElem hlt'⟩,Pv (i + 1),fun σ' H' p'=>⟨xs.length - (i + 1),by omega,rfl,hlt,p'⟩,fun x H' y=>?_⟩
   obtain ⟨e,y⟩:=y
   subst e
   exact hs i x σ _ hlt (y xs q) p
 . have e:i=xs.length:=by omega
   subst e
   exact .inl ⟨Nat.le_refl _,hd σ H p⟩
theorem lc_str {x:Str} {g:TG} {tt:TT} {te:TE} {vs:List Nat} {σ:L2.St} {H1:Hp} {D:Addr} {Qd:Hp->Prop} (Pv:Nat->Hp->Prop) (h0:Pv 0 (L2.upd H1 D (.lst [])))
 (hs:∀ i c H,x.cps[i]? = some c->Pv i H->g (.str ⟨#[c]⟩) (wipe σ vs) H fun σ2 H2=>wipe σ2 vs=wipe σ vs/\tt σ2 H2 fun b H3=>
  if b=true then te σ2 H3 fun y H4=>∃ acc,H4 D=some (.lst acc)/\acc.length < sizeLine/\Pv (i + 1) (L2.upd H4 D (.lst (acc ++ [y]))) else Pv (i + 1) H3) (hd:∀ H,Pv x.cps.size H->Qd H) :
 ∃ W:Nat->Nat->Hp->Prop,(∃ m,W 0 m (L2.upd H1 D (.lst [])))/\∀ i m H,W i m H ->
  ((Its x).stop i H/\Qd H) \/ ((Its x).go i H/\∃ Nx:Hp->Prop,(∀ H',Nx H'->∃ m',m' < m/\W (i + 1) m' H')/\∀ y H',(Its x).yld i H y H'->g y (wipe σ vs) H' fun σ2 H2=>wipe σ2 vs=wipe σ vs/\tt σ2 H2 fun b H3=>
   if b=true then te σ2 H3 fun y H4=>∃ acc,H4 D=some (.lst acc)/\acc.length < sizeLine/\Nx (L2.upd H4 D (.lst (acc ++ [y]))) else Nx H3):=by
 refine ⟨fun i m H=>m=x.cps.size - i/\i<=x.cps.size/\Pv i H,⟨x.cps.size,by simp,Nat.zero_le _,h0⟩,?_⟩
 rintro i m H ⟨rfl,hi,p⟩
 by_cases hlt:i < x.cps.size
 . refine .inr ⟨hlt,Pv (i + 1),fun H' p'=>⟨x.cps.size - (i + 1),by omega,rfl,hlt,p'⟩,fun y H' q=>?_⟩
   obtain ⟨e,c,hc,ey⟩:=q
   subst e ey
   exact hs i c _ hc p
 . have e:i=x.cps.size:=by omega
   subst e
   exact .inl ⟨Nat.le_refl _,hd H p⟩
abbrev effT:List (Int × List Int):=[(0,[1,-2,-3]),(1,[-1,2,-3]),(2,[-1,-2,3]),(3,[3,-2,1]),(4,[2,-1,3]),(5,[-2,1,3])]
abbrev behT:List (Int × List Int):=[(1,[3,-2,1]),(2,[3,1,2]),(3,[1,2,3])]
abbrev undT:List (Int × List Int):=[(1,[3,-2,1]),(2,[2,3,1]),(3,[1,2,3])]
abbrev pcsT:List (Int × V):=[(1,.str "th"),(2,.str "ths"),(3,.str "t")]
abbrev wordS:List Str:=["","h","s","hs","sh","ss","hsh","hss","shs","ssh","sss","hshs","hssh","hsss","shss","sshs","hshss","hsshs","shssh","shsss","sshss","hshssh","hshsss","hsshss"]
structure Wx (K:PySem.W.Frag) (mg:Str->Option Value) where
 eff:TDic K mg "EFFECTS" effT
 beh:TDic K mg "BEHIND_T" behT
 und:TDic K mg "UNDOING_THAT" undT
 a_pcs:Addr
 pcs:DicAt K mg "PIECES" a_pcs pcsT
 a_wrd:Addr
 wrd:mg "WORDS" = some (.ref a_wrd)
 wrds:∀ H,SqT K H a_wrd (wordS.map V.str)
def effL (e:Eff):List Int:=[e.1,e.2.1,e.2.2]
def effV (e:Eff):List V:=(effL e).map V.int
def AxI (a:Int):Prop:=a=1 \/ a=2 \/ a=3 \/ a = -1 \/ a = -2 \/ a = -3
def AxOk (e:Eff):Prop:=AxI e.1/\AxI e.2.1/\AxI e.2.2
theorem AxI.neg {a:Int} (h:AxI a):AxI (-a):=by unfold AxI at *; omega
theorem AxOk.at {e:Eff} (h:AxOk e) (k:Int):AxI (axAt e k):=by
 unfold axAt
 split
 . exact h.1
 . split
   . exact h.2.1
   . exact h.2.2
theorem AxOk.ax {e:Eff} (h:AxOk e) (a:Int):AxI (ax e a):=by
 unfold OmForm.ax
 split
 . exact h.at _
 . exact (h.at _).neg
theorem AxOk.fol {f s:Eff} (h:AxOk s):AxOk (followed f s):=⟨h.ax _,h.ax _,h.ax _⟩
theorem axok_eff:∀ e ∈ EFFS,AxOk e:=by
 intro e he
 have:∀ e ∈ EFFS,(e.1=1 \/ e.1=2 \/ e.1=3 \/ e.1 = -1 \/ e.1 = -2 \/ e.1 = -3)/\(e.2.1=1 \/ e.2.1=2 \/ e.2.1=3 \/ e.2.1 = -1 \/ e.2.1 = -2 \/ e.2.1 = -3)/\(e.2.2=1 \/ e.2.2=2 \/ e.2.2=3 \/ e.2.2 = -1 \/ e.2.2 = -2 \/ e.2.2 = -3):=by decide +kernel
 exact this e he
theorem axok_g {g:Nat} (h:g < 6):lookT effT (g:Int)=some (effL (effG g))/\AxOk (effG g):=by
 match g,h with
 | 0,_=>exact ⟨rfl,by unfold AxOk AxI; decide⟩
 | 1,_=>exact ⟨rfl,by unfold AxOk AxI; decide⟩
 | 2,_=>exact ⟨rfl,by unfold AxOk AxI; decide⟩
 | 3,_=>exact ⟨rfl,by unfold AxOk AxI; decide⟩
 | 4,_=>exact ⟨rfl,by unfold AxOk AxI; decide⟩
 | 5,_=>exact ⟨rfl,by unfold AxOk AxI; decide⟩
theorem look_beh {a:Int} (h:a=1 \/ a=2 \/ a=3):lookT behT a=some (effL (behind a))/\AxOk (behind a):=by
 rcases h with rfl | rfl | rfl <;> exact ⟨rfl,by unfold AxOk AxI; decide⟩
theorem look_und {a:Int} (h:a=1 \/ a=2 \/ a=3):lookT undT a=some (effL (unThat a))/\AxOk (unThat a):=by
 rcases h with rfl | rfl | rfl <;> exact ⟨rfl,by unfold AxOk AxI; decide⟩
theorem at_eff (e:Eff) {k:Int} (h:k=0 \/ k=1 \/ k=2):atI (effV e) k=some (.int (axAt e k)):=by
 rcases h with rfl | rfl | rfl <;> rfl
section
variable {P:Program} {w:World} {K:PySem.W.Frag} {mg:Str->Option Value} {base:Heap}
theorem boot_tuple:bootBuiltins "tuple" = some (.type "tuple"):=by decide +kernel
theorem boot_abs:bootBuiltins "abs" = some (.builtin "abs"):=by decide +kernel
theorem boot_ord:bootBuiltins "ord" = some (.builtin "ord"):=by decide +kernel
def spFol (K:PySem.W.Frag):Sp:=fun vs H Q _=>∃ (a b:Addr) (f s:Eff),vs=[.ref a,.ref b]/\SqT K H a (effV f)/\SqT K H b (effV s)/\AxOk f/\∀ (H':Hp) (t:Addr),Same H H'->SqT K H' t (effV (followed f s))->Q (.ref t) H'
theorem sc_fol:FnScope ["first","second","axis"] ["first","second"] (defScope s_followed):=⟨rfl,rfl,rfl,by decide +kernel,rfl,by decide +kernel,by decide +kernel⟩
theorem ok_fol (T:Tx K mg):FnOk P w K mg base CX0 1 T.f_followed T.g_followed ["first","second"] (spFol K):=by
 refine T.d_followed.F.ok sc_fol (fun vs H Q E h=>?_) (fun cdv A outer s H vs Q E hr h=>?_)
 . obtain ⟨a,b,f,s,rfl,_⟩:=h
   rfl
 . obtain ⟨a,b,f,e,rfl,ha,hb,ok,k⟩:=h
   refine ⟨_,pss_one (ps_ret (pe_callTy call_tuple_of (by rfl) T.b_tuple boot_tuple (pa_cons (pe_lc (own:=[("axis",2)]) rfl sc_fol.nd (pi_tup (pv 0)) (blkOk_by (by show blkC ["first","second","axis"] (defScope s_followed) _ _=true; decide +kernel))
    (fun s H C cl fp=>pg_name (i:=2) sc_fol.nd rfl (Or.inl rfl) (.inr rfl)) (fun _ _ _ _ _=>pts_nil)
    (fun _ _ _ _ _=>pe_ifExp (pt_cmpR op_gt (pv 2) pe_int (nomark _)) (pe_ix (ix_tupK K) (pv 1) (pe_op op_sub (pv 2) pe_int) (fun _ _=>rfl)) (pe_un un_neg (pe_ix (ix_tupK K) (pv 1) (pe_op op_sub (pe_un un_neg (pv 2)) pe_int) (fun _ _=>rfl))))) pa_nil))),?_⟩
   refine ⟨_,rfl,a,rfl,⟨_,ha⟩,fun D hD=>?_⟩
   refine lc_tup (K:=K) (a:=a) (xs:=effV f) (fun i H'=>Same H H'/\H' D=some (.lst (((effL f).take i).map fun c=>V.int (ax e c)))) ⟨Same.upd hD,upd_same⟩ (fun i H' _ h=>h.1.tup ha) ?_ ?_
   . rintro i x H' hi ⟨e1,hy⟩
     obtain ⟨c,hc,rfl,hx⟩:∃ c,(effL f)[i]? = some c/\x = .int c/\AxI c:=by
      unfold effV at hi
      rw [List.getElem?_map] at hi
      cases z:(effL f)[i]? with
      | none=>rw [z] at hi; cases hi
      | some c=>
       rw [z] at hi
       refine ⟨c,rfl,(Option.some.inj hi).symm,?_⟩
       have hm:=List.mem_of_getElem? z
       unfold effL at hm
       simp only [List.mem_cons,List.not_mem_nil,or_false] at hm
       rcases hm with rfl | rfl | rfl
       . exact ok.1
       . exact ok.2.1
       . exact ok.2.2
     have fin:∀ H4,H4=H'->∃ acc,H4 D=some (.lst acc)/\acc.length < sizeLine/\Same H (upd H4 D (.lst (acc ++ [V.int (ax e c)])))/\(upd H4 D (.lst (acc ++ [V.int (ax e c)]))) D=some (.lst (((effL f).take (i + 1)).map fun c=>V.int (ax e c))):=by
      rintro H4 rfl
      refine ⟨_,hy,?_,Same.grown hD e1,?_⟩
      . rw [List.length_map,List.length_take]
        have:(effL f).length=3:=rfl
        exact small (by omega)
      . rw [upd_same,take_snoc hc,List.map_append]
        rfl
     refine ⟨rfl,_,rfl,_,_,rfl,rfl,_,rfl,ite2 (fun h=>?_) (fun h=>?_)⟩
     . have hp:0 < c:=of_decide_eq_true h
       have hax:ax e c=axAt e (c - 1):=by unfold OmForm.ax; rw [if_pos hp]
       refine ⟨_,rfl,_,rfl,_,_,rfl,rfl,b,_,_,_,rfl,rfl,e1.tup hb,at_eff e (by unfold AxI at hx; omega),?_⟩
       have:=fin H' rfl
       rw [hax] at this
       exact this
     . have hp:¬ 0 < c:=fun z=>h (decide_eq_true z)
       have hax:ax e c = -axAt e (-c - 1):=by unfold OmForm.ax; rw [if_neg hp]
       refine ⟨_,rfl,_,rfl,_,rfl,_,_,rfl,rfl,b,_,_,_,rfl,rfl,e1.tup hb,at_eff e (by unfold AxI at hx; omega),_,rfl,?_⟩
       have:=fin H' rfl
       rw [hax] at this
       exact this
   . rintro H' ⟨e1,hy⟩
     refine ⟨D,_,rfl,.inl ⟨SqL.of hy,fun l hl=>k _ l (e1.trans (Same.upd hl)) (SqT.of ?_)⟩⟩
     rw [upd_same]
     rfl
def spEff (K:PySem.W.Frag):Sp:=fun vs H Q _=>∃ (x:Str),vs=[.str x]/\∀ (H':Hp) (t:Addr),Same H H'->SqT K H' t (effV (effOf x.cps.toList))->Q (.ref t) H'
theorem sc_eff:FnScope ["word","effect","letter"] ["word"] (defScope s_effect_of):=⟨rfl,rfl,rfl,by decide +kernel,rfl,by decide +kernel,by decide +kernel⟩
theorem eff_snoc {x:List Nat} {i c:Nat} (h:x[i]? = some c):effOf (x.take (i + 1))=followed (effOf (x.take i)) (effG (if c=Omega.H then 3 else 4)):=by
 rw [take_snoc h]
 unfold effOf
 rw [List.foldl_append]
 rfl
theorem str_h (c:Nat):(V.str ⟨#[c]⟩ = V.str ("h" : Str)) <-> c=Omega.H:=by
 have e:("h" : Str) = ⟨#[104]⟩:=by decide +kernel
 rw [e]
 constructor
 . intro z
   injection z with z
   injection z with z
   have:=congrArg Array.toList z
   exact (show c=104 by simpa using this)
 . intro z
   rw [z]
   rfl
theorem axok_of (x:List Nat):AxOk (effOf x):=by
 unfold effOf
 have:∀ (x:List Nat) (e:Eff),AxOk e->AxOk (x.foldl (fun e c=>followed e (effG (if c=Omega.H then 3 else 4))) e):=by
  intro x
  induction x with
  | nil=>exact fun e h=>h
  | cons c x ih=>
   intro e h
   refine ih _ (AxOk.fol ?_)
   split
   . exact (axok_g (g:=3) (by decide)).2
   . exact (axok_g (g:=4) (by decide)).2
 exact this x _ (by unfold AxOk AxI; decide)
theorem ok_eff (T:Tx K mg) (W:Wx K mg):FnOk P w K mg base CX0 2 T.f_effect_of T.g_effect_of ["word"] (spEff K):=by
 have G1:FnOk P w K mg base CX0 1 T.f_followed T.g_followed ["first","second"] (spFol K):=ok_fol T
 refine T.d_effect_of.F.ok sc_eff (fun vs H Q E h=>?_) (fun cdv A outer s H vs Q E hr h=>?_)
 . obtain ⟨x,rfl,_⟩:=h
   rfl
 . obtain ⟨x,rfl,k⟩:=h
   refine ⟨_,pss_cons (ps_set (i:=1) sc_eff.nd rfl (Or.inl rfl) (pe_glob (v:=.ref T.a_STAYING) (by rfl) T.t_STAYING.m rfl))
    (pss_cons (ps_for PassesOwn.never rfl (pi_str (pv 0)) (pg_name (i:=2) sc_eff.nd rfl (Or.inl rfl))
     (pss_one (ps_set (i:=1) sc_eff.nd rfl (Or.inl rfl) (pe_call G1 hr (by rfl) T.d_followed.m T.d_followed.F.kp T.d_followed.b .nil pass0 (pa_cons (pv 1) (pa_cons (pe_topT K W.eff (by rfl) (pe_ifExp (pt_cmpR op_eq (pv 2) pe_str (nomark _)) (pe_topI T.i_H_GATE) (pe_topI T.i_S_GATE)) (fun _ _=>rfl)) pa_nil))))))
    (pss_one (ps_ret (pv 1)))),?_⟩
   refine ⟨_,rfl,x,rfl,for_str (x:=x) (fun i σ H'=>∃ (t:Addr) (v2:Option V),σ=[some (.str x),some (.ref t),v2]/\Same H H'/\SqT K H' t (effV (effOf (x.cps.toList.take i))))
    ⟨T.a_STAYING,none,rfl,Same.refl H,T.t_STAYING.at_ H⟩ ?_ ?_⟩
   . rintro i c σ H' hc ⟨t,v2,rfl,e,ht⟩
     have hc':x.cps.toList[i]? = some c:=by rw [Array.getElem?_toList]; exact hc
     have tail:∀ g:Nat,g < 6->g=(if c=Omega.H then 3 else 4)->∃ n ns,V.int (g:Int) = .int n/\lookT effT n=some ns/\∀ r,(∀ H,SqT K H r (ns.map V.int))->spFol K [.ref t,.ref r] H' (fun v H1=>∃ (t:Addr) (v2:Option V),[some (.str x),some v,some (.str ⟨#[c]⟩)]=[some (.str x),some (.ref t),v2]/\Same H H1/\SqT K H1 t (effV (effOf (x.cps.toList.take (i + 1))))) E0:=fun g hg eg=>by
      obtain ⟨hl,hax⟩:=axok_g hg
      refine ⟨_,_,rfl,hl,fun r hr=>⟨t,r,_,_,rfl,ht,hr H',axok_of _,fun H1 t1 e1 h1=>⟨t1,_,rfl,e.trans e1,?_⟩⟩⟩
      rw [eff_snoc hc',<- eg]
      exact h1
     refine ⟨_,rfl,_,rfl,rfl,_,rfl,ite2 (fun h=>?_) (fun h=>?_)⟩
     . have hh:c=Omega.H:=(str_h c).mp (of_decide_eq_true h)
       exact tail 3 (by decide) (by rw [if_pos hh])
     . have hh:¬ c=Omega.H:=fun z=>h (decide_eq_true ((str_h c).mpr z))
       exact tail 4 (by decide) (by rw [if_neg hh])
   . rintro σ H' ⟨t,v2,rfl,e,ht⟩
     rw [show x.cps.size=x.cps.toList.length from Array.length_toList.symm,List.take_length] at ht
     exact ⟨_,rfl,k H' t e ht⟩
def pcV (ps:List Int):List V:=ps.reverse.map V.int
def spWith (K:PySem.W.Frag):Sp:=fun vs H Q _=>∃ (g:Nat) (st pl:Addr) (e:Eff) (ps:List Int),vs=[.int (g:Int),.ref st,.ref pl]/\(g=6 \/ g=7)/\e ∈ EFFS/\PsOk ps/\ps.length<=600/\SqT K H st (effV e)/\H pl=some (.lst (pcV ps)) /\
 ∀ (H':Hp) (t:Addr),But pl H H'->H' pl=some (.lst (pcV (withT g e ps).2))->SqT K H' t (effV (withT g e ps).1)->Q (.ref t) H'
theorem sc_with:FnScope ["g","start","pieces","axis"] ["g","start","pieces"] (defScope s_with_t_ahead):=⟨rfl,rfl,rfl,by decide +kernel,rfl,by decide +kernel,by decide +kernel⟩
theorem abs_axis (e:Eff):(if e.2.2 < 0 then -e.2.2 else e.2.2)=axis e:=by
 unfold OmForm.axis
 split <;> omega
theorem ahead_ok {e:Eff} (h:AxOk e) (g:Nat):AxOk (ahead g e):=by
 unfold OmForm.ahead OmForm.ahead2 OmForm.ahead1
 split <;> split <;> first | exact AxOk.fol (AxOk.fol h) | exact AxOk.fol h | exact h
theorem ok_with (T:Tx K mg) (W:Wx K mg):FnOk P w K mg base CX0 2 T.f_with_t_ahead T.g_with_t_ahead ["g","start","pieces"] (spWith K):=by
 have G1:FnOk P w K mg base CX0 1 T.f_followed T.g_followed ["first","second"] (spFol K):=ok_fol T
 refine T.d_with_t_ahead.F.ok sc_with (fun vs H Q E h=>?_) (fun cdv A outer s H vs Q E hr h=>?_)
 . obtain ⟨g,st,pl,e,ps,rfl,_⟩:=h
   rfl
 . obtain ⟨g,st,pl,e,ps,rfl,hg,hE,hps,h600,hst,hpl,k⟩:=h
   have hax:=axok_eff e hE
   have hg':g ∈ [6,7]:=by rcases hg with rfl | rfl <;> decide
   have x13:=(OmForm.t_new e hE g hg').1
   have R2:∃ tR,PSs (cxOf CX0 P w K mg base ["g","start","pieces","axis"] "with_t_ahead" (defScope s_with_t_ahead) T.f_with_t_ahead cdv A outer s H E).nox ((defBody s_with_t_ahead).drop 2) tR /\
    ∀ (st2:Addr) (H1:Hp),Same H H1->SqT K H1 st2 (effV (ahead g e))->tR { nx:=fun _ H'=>Q .non H',rt:=Q } [some (.int (g:Int)),some (.ref st2),some (.ref pl),none] H1:=by
    refine ⟨_,pss_cons (ps_set (i:=3) sc_with.nd rfl (Or.inl rfl) (pe_callB call_abs (by rfl) T.b_abs boot_abs (pa_cons (pe_at 1 2) pa_nil)))
     (pss_cons (ps_if (PW.pt (pw_and (pt_cmpR op_eq (pv 3) (pe_topI T.i_Z_AXIS) (nomark _)) (pw_and1 (pt_truth (pv 2) (fun _=>rfl)))))
      (pss_one (ps_ret (pe_call G1 hr (by rfl) T.d_followed.m T.d_followed.F.kp T.d_followed.b .nil pass0 (pa_cons (pe_call G1 hr (by rfl) T.d_followed.m T.d_followed.F.kp T.d_followed.b .nil pass0 (pa_cons (pv 1) (pa_cons (pe_topT K W.eff (by rfl) (pe_topI T.i_S_GATE) (fun _ _=>rfl)) pa_nil)))
       (pa_cons (pe_topT K W.beh (by rfl) (pe_bm0 PySem.F.plainAttrs_list PySem.F.slot_list_pop PySem.F.type_list_pop mt_pop (pv 2)) (fun _ _=>rfl)) pa_nil))))) pss_nil)
     (pss_cons (ps_expr (pe_bm PySem.F.plainAttrs_list PySem.F.slot_list_append PySem.F.type_list_append mt_append (pv 2) (pa_cons (pv 3) pa_nil)))
     (pss_one (ps_ret (pe_call G1 hr (by rfl) T.d_followed.m T.d_followed.F.kp T.d_followed.b .nil pass0 (pa_cons (pv 1) (pa_cons (pe_topT K W.und (by rfl) (pv 3) (fun _ _=>rfl)) pa_nil))))))),fun st2 H1 e1 hs2=>?_⟩
    have hpl1:=e1 _ _ hpl
    refine ⟨st2,_,_,rfl,hs2,rfl,_,rfl,?_⟩
    rw [abs_axis]
    -- a new piece
    have newp:withT g e ps=(followed (ahead g e) (unThat (axis (ahead g e))),axis (ahead g e) :: ps) ->
     ∃ l vs y,V.ref pl = .ref l/\[V.int (axis (ahead g e))]=[y]/\H1 l=some (.lst vs)/\vs.length < sizeLine /\
      (∃ n ns,V.int (axis (ahead g e)) = .int n/\lookT undT n=some ns/\∀ r,(∀ H,SqT K H r (ns.map V.int))->spFol K [.ref st2,.ref r] (upd H1 l (.lst (vs ++ [y]))) Q E0):=fun hw=>by
     obtain ⟨hl,_⟩:=look_und x13
     refine ⟨pl,_,_,rfl,rfl,hpl1,?_,_,_,rfl,hl,fun r hr=>⟨st2,r,_,_,rfl,But.upd.tup hpl1 hs2,hr _,ahead_ok hax g,fun H2 t e2 ht=>?_⟩⟩
     . unfold pcV
       rw [List.length_map,List.length_reverse,sizeLine_eq]
       omega
     . refine k H2 t ((e1.but.trans But.upd).trans e2.but) ?_ ?_
       . rw [e2 _ _ upd_same,hw]
         unfold pcV
         rw [List.reverse_cons,List.map_append]
         rfl
       . rw [hw]
         exact ht
    refine ⟨_,rfl,rfl,_,rfl,?_⟩
    refine ite2 (fun h3=>?_) (fun h3=>?_)
    . have ha3:axis (ahead g e)=3:=V.int.inj (of_decide_eq_true h3)
      refine ⟨_,rfl,_,.inl ⟨_,SqL.of hpl1,rfl⟩,?_⟩
      cases ps with
      | nil=>
       refine iteF ?_
       have hw:withT g e []=(followed (ahead g e) (unThat (axis (ahead g e))),[axis (ahead g e)]):=by
        unfold OmForm.withT
        rw [if_pos ha3,ha3]
       obtain ⟨l,vs,y,z1,z2,z3,z4,z5⟩:=newp hw
       cases z1
       cases z2
       exact ⟨_,rfl,.inl ⟨rfl,_,SqL.of z3⟩,_,rfl,_,_,_,rfl,rfl,z3,z4,_,rfl,_,rfl,z5⟩
      | cons q r=>
       have hne:(!(pcV (q :: r)).isEmpty)=true:=by
        unfold pcV
        simp
       rw [hne]
       refine iteT ?_
       have hq:=hps.mem q List.mem_cons_self
       have hq3:q=1 \/ q=2 \/ q=3:=by simpa using hq
       obtain ⟨hl,hbx⟩:=look_beh hq3
       obtain ⟨hl4,hx4⟩:=axok_g (g:=4) (by decide)
       have hlast:(pcV (q :: r))[(pcV (q :: r)).length - 1]? = some (.int q):=by
        unfold pcV
        rw [List.reverse_cons,List.map_append]
        simp
       have hdrop:(pcV (q :: r)).dropLast=pcV r:=by
        unfold pcV
        rw [List.reverse_cons,List.map_append]
        simp
       refine ⟨_,rfl,_,_,rfl,hl4,fun r4 hr4=>⟨st2,r4,_,_,rfl,hs2,hr4 H1,ahead_ok hax g,fun H2 t2 e2 h2=>?_⟩⟩
       refine ⟨_,rfl,.inl ⟨rfl,_,SqL.of (e2 _ _ hpl1)⟩,pl,_,_,rfl,rfl,e2 _ _ hpl1,hlast,_,_,rfl,hl,fun rb hrb=>?_⟩
       refine ⟨t2,rb,_,_,rfl,But.upd.tup (e2 _ _ hpl1) h2,hrb _,AxOk.fol hx4,fun H3 t3 e3 h3=>?_⟩
       have hw:withT g e (q :: r)=(followed (followed (ahead g e) (effG 4)) (behind q),r):=by
        unfold OmForm.withT
        rw [if_pos ha3]
       refine k H3 t3 ((((e1.trans e2).but).trans But.upd).trans e3.but) ?_ ?_
       . rw [e3 _ _ upd_same,hw,hdrop]
       . rw [hw]
         exact h3
    . refine iteF ?_
      have hw:withT g e ps=(followed (ahead g e) (unThat (axis (ahead g e))),axis (ahead g e) :: ps):=by
       unfold OmForm.withT
       rw [if_neg (fun z=>h3 (decide_eq_true (by rw [z])))]
      obtain ⟨l,vs,y,z1,z2,z3,z4,z5⟩:=newp hw
      cases z1
      cases z2
      exact ⟨_,rfl,.inl ⟨rfl,_,SqL.of z3⟩,_,rfl,_,_,_,rfl,rfl,z3,z4,_,rfl,_,rfl,z5⟩
   obtain ⟨t2,h2,q2⟩:=R2
   have R1:∃ tR,PSs (cxOf CX0 P w K mg base ["g","start","pieces","axis"] "with_t_ahead" (defScope s_with_t_ahead) T.f_with_t_ahead cdv A outer s H E).nox ((defBody s_with_t_ahead).drop 1) tR /\
    ∀ (st1:Addr) (H1:Hp),Same H H1->SqT K H1 st1 (effV (ahead1 g e))->AxOk (ahead1 g e)->tR { nx:=fun _ H'=>Q .non H',rt:=Q } [some (.int (g:Int)),some (.ref st1),some (.ref pl),none] H1:=by
    refine ⟨_,pss_cons (ps_if (pt_cmpR op_lt (pe_at 1 2) pe_int (nomark _)) (pss_one (ps_set (i:=1) sc_with.nd rfl (Or.inl rfl) (pe_call G1 hr (by rfl) T.d_followed.m T.d_followed.F.kp T.d_followed.b .nil pass0 (pa_cons (pe_topT K W.eff (by rfl) (pe_topI T.i_S_GATE) (fun _ _=>rfl)) (pa_cons (pv 1) pa_nil))))) pss_nil) h2,fun st1 H1 e1 hs1 hx1=>?_⟩
    refine ⟨st1,_,_,rfl,hs1,rfl,_,_,rfl,rfl,_,rfl,ite2 (fun h=>?_) (fun h=>?_)⟩
    . have hn:(ahead1 g e).2.2 < 0:=of_decide_eq_true h
      obtain ⟨hl4,hx4⟩:=axok_g (g:=4) (by decide)
      refine ⟨_,_,rfl,hl4,fun r hr=>⟨_,rfl,r,st1,_,_,rfl,hr H1,hs1,hx4,fun H2 t e2 ht=>q2 t H2 (e1.trans e2) ?_⟩⟩
      have:ahead g e=followed (effG 4) (ahead1 g e):=by
       unfold OmForm.ahead OmForm.ahead2
       rw [if_pos hn]
      rw [this]
      exact ht
    . have hn:¬ (ahead1 g e).2.2 < 0:=fun z=>h (decide_eq_true z)
      have:ahead g e=ahead1 g e:=by
       unfold OmForm.ahead OmForm.ahead2
       rw [if_neg hn]
      exact q2 st1 H1 e1 (by rw [this]; exact hs1)
   obtain ⟨t1,h1,q1⟩:=R1
   refine ⟨_,pss_cons (ps_if (pt_cmpR op_eq (pv 0) (pe_topI T.i_T_BACK_GATE) (nomark _)) (pss_one (ps_set (i:=1) sc_with.nd rfl (Or.inl rfl) (pe_call G1 hr (by rfl) T.d_followed.m T.d_followed.F.kp T.d_followed.b .nil pass0 (pa_cons (pe_topT K W.eff (by rfl) (pe_topI T.i_S_BACK_GATE) (fun _ _=>rfl)) (pa_cons (pv 1) pa_nil))))) pss_nil) h1,?_⟩
   refine ⟨_,rfl,rfl,_,rfl,ite2 (fun h=>?_) (fun h=>?_)⟩
   . have h7:g=7:=by
      have:=V.int.inj (of_decide_eq_true h)
      omega
     obtain ⟨hl5,hx5⟩:=axok_g (g:=5) (by decide)
     have ea:ahead1 g e=followed (effG 5) e:=by
      unfold OmForm.ahead1
      rw [if_pos h7]
     refine ⟨_,_,rfl,hl5,fun r hr=>⟨_,rfl,r,st,_,_,rfl,hr H,hst,hx5,fun H2 t e2 ht=>q1 t H2 e2 (by rw [ea]; exact ht) (by rw [ea]; exact AxOk.fol hax)⟩⟩
   . have h7:¬ g=7:=fun z=>h (decide_eq_true (by rw [z]; rfl))
     have ea:ahead1 g e=e:=by
      unfold OmForm.ahead1
      rw [if_neg h7]
     exact q1 st H (Same.refl H) (by rw [ea]; exact hst) (by rw [ea]; exact hax)
end
end Q
namespace Q
open PySem PySem.Spec PyProof.Rows L2 Omega OmMath
section
variable {X:Cx} {i:Expr} {ty:TE} {x:Str} {a:Addr} {kvs:List (Int × V)} {p pos:Pos}
theorem pe_topS (K:PySem.W.Frag) (D:DicAt K X.mg x a kvs) (hg:Gl X x) (hi:PE X i ty) (hs:NoSl i) (hK:X.K=K:=by rfl) (hd:(x == ("__debug__" : Str))=false:=by decide):PE X (.Subscript (.Name x p) i pos) (tTop kvs ty):=by
 subst hK
 exact pe_top D hg hi hs hd
end
end Q
end
section
end
section
namespace Q
open PySem PySem.Spec PyProof.Rows L2 Omega OmMath
theorem few {n:Nat} (h:n<=100):n<=sizeLine:=by rw [sizeLine_eq]; omega
end Q
end
section
end
section
end
section
end
section
end
section
end
section
end
section
end
section
namespace Q
open PySem PySem.Spec PyProof.Rows L2 Omega OmMath
open OmForm (Eff followed effG effOf wd piece behind unThat ahead ahead1 ahead2 axis withT stepW byW wordBy tailW PsOk EFFS axAt ax)
def tlS (x:Str):List Nat:=x.cps.toList
theorem words_tl:wordS.map tlS=Omega.WORDS:=by decide +kernel
theorem piece_str {a:Int} (h:a=1 \/ a=2 \/ a=3):∃ x:Str,valV (keyed pcsT) (Sum.inl a)=some (.str x)/\tlS x=piece a/\x.length<=3:=by
 rcases h with rfl | rfl | rfl
 . exact ⟨"th",rfl,by decide +kernel,by decide +kernel⟩
 . exact ⟨"ths",rfl,by decide +kernel,by decide +kernel⟩
 . exact ⟨"t",rfl,by decide +kernel,by decide +kernel⟩
theorem join_tl:∀ ys:List Str,tlS (Str.join ("" : Str) ys)=ys.flatMap tlS
 | []=>rfl
 | [x]=>by show tlS x=tlS x ++ []; rw [List.append_nil]
 | x :: y :: r=>by
  show tlS (x ++ ("" : Str) ++ Str.join ("" : Str) (y :: r))=_
  rw [List.flatMap_cons,<- join_tl (y :: r)]
  show TL.tl (x ++ ("" : Str) ++ Str.join ("" : Str) (y :: r))=_
  rw [TL.tl_append,TL.tl_append]
  have:TL.tl ("" : Str)=[]:=by decide +kernel
  rw [this,List.append_nil]
  rfl
def picked_ (e:Eff) (l:List Str):List Str:=l.filter fun x=>decide (effOf (tlS x)=e)
theorem filter_map_tl (e:Eff):∀ l:List Str,(picked_ e l).map tlS=(l.map tlS).filter fun w=>decide (effOf w=e)
 | []=>rfl
 | x :: l=>by
  unfold picked_
  rw [List.map_cons,List.filter_cons,List.filter_cons]
  by_cases h:effOf (tlS x)=e
  . rw [decide_eq_true h,if_pos rfl,if_pos rfl,List.map_cons]
    exact congrArg _ (filter_map_tl e l)
  . rw [decide_eq_false h,if_neg (by decide),if_neg (by decide)]
    exact filter_map_tl e l
theorem picked_first {e:Eff} (h:e ∈ EFFS):∃ x,picked_ e wordS=[x]/\tlS x=wd e/\x.length<=6:=by
 have a:=filter_map_tl e wordS
 rw [words_tl,(OmForm.t_wd e h).2] at a
 cases q:picked_ e wordS with
 | nil=>rw [q] at a; cases a
 | cons x r=>
  rw [q] at a
  injection a with a1 a2
  cases r with
  | nil=>
   refine ⟨x,rfl,a1,?_⟩
   have hm:x ∈ wordS:=by
    have:x ∈ picked_ e wordS:=by rw [q]; exact List.mem_cons_self
    exact (List.mem_filter.mp this).1
   have all:∀ x ∈ wordS,x.length<=6:=by decide +kernel
   exact all x hm
  | cons y r=>cases a2
def effD (e:Eff):PyData:=.tuple [.int e.1,.int e.2.1,.int e.2.2]
theorem eff_dp {K:PySem.W.Frag} {H:Hp} {t:Addr} {e:Eff} (h:SqT K H t (effV e)):Dp K H (.ref t) (effD e):=.tup h (.cons (.int _) (.cons (.int _) (.cons (.int _) .nil)))
theorem eff_shaped (e:Eff):SeqAt.shaped (effD e)=true:=by rfl
theorem eff_eqv (e f:Eff):PyData.eqv (effD e) (effD f)=decide (e=f):=by
 apply bool_eq_of
 rw [decide_eq_true_eq]
 obtain ⟨a,b,c⟩:=e
 obtain ⟨x,y,z⟩:=f
 simp [effD,PyData.eqv,PyData.eqvAll]
theorem by_snoc {L:List Omega.Step} {i:Nat} {z:Omega.Step} (hi:i < L.length) (h:L[L.length - 1 - i]? = some z):byW ((L.drop (L.length - (i + 1))).map (·.1))=stepW z.1 (byW ((L.drop (L.length - i)).map (·.1))):=by
 have e:L.length - (i + 1)=L.length - 1 - i:=by omega
 obtain ⟨hlt,hz⟩:=List.getElem?_eq_some_iff.mp h
 rw [e,List.drop_eq_getElem_cons hlt,hz,List.map_cons]
 have e2:L.length - 1 - i + 1=L.length - i:=by omega
 rw [e2]
 rfl
theorem by_len:∀ l:List Nat,(byW l).2.length<=l.length
 | []=>Nat.le_refl _
 | g :: l=>by
  have ih:=by_len l
  show (stepW g (byW l)).2.length<=l.length + 1
  unfold OmForm.stepW OmForm.withT
  split
  . exact Nat.le_succ_of_le ih
  . split
    . cases q:(byW l).2 with
      | nil=>simp
      | cons p r=>rw [q] at ih; simp at ih ⊢; omega
    . simp; exact ih
theorem in_effT {g:Nat} (h:g < 8):(lookT effT (g:Int)).isSome=decide (g < 6):=by
 match g,h with
 | 0,_=>rfl
 | 1,_=>rfl
 | 2,_=>rfl
 | 3,_=>rfl
 | 4,_=>rfl
 | 5,_=>rfl
 | 6,_=>rfl
 | 7,_=>rfl
section
variable {P:Program} {w:World} {K:PySem.W.Frag} {mg:Str->Option Value} {base:Heap}
def spWord (K:PySem.W.Frag):Sp:=fun vs H Q _=>∃ (gl:Addr) (xs:List V) (L:List Omega.Step),vs=[.ref gl]/\H gl=some (.lst xs)/\GatesIn H xs L/\(∀ z ∈ L,z.1 < 8)/\L.length<=500/\∀ (H':Hp) (x:Str),Same H H'->tlS x=wordBy (L.map (·.1))->x.length<=2000->Q (.str x) H'
theorem sc_word:FnScope ["gates","pieces","start","gate","first","word","axis"] ["gates"] (defScope s_word_of):=⟨rfl,rfl,rfl,by decide +kernel,rfl,by decide +kernel,by decide +kernel⟩
theorem ok_word (T:Tx K mg) (W:Wx K mg):FnOk P w K mg base CX0 3 T.f_word_of T.g_word_of ["gates"] (spWord K):=by
 have G1:FnOk P w K mg base CX0 1 T.f_followed T.g_followed ["first","second"] (spFol K):=ok_fol T
 have G2:FnOk P w K mg base CX0 2 T.f_effect_of T.g_effect_of ["word"] (spEff K):=ok_eff T W
 have G3:FnOk P w K mg base CX0 2 T.f_with_t_ahead T.g_with_t_ahead ["g","start","pieces"] (spWith K):=ok_with T W
 refine T.d_word_of.F.ok sc_word (fun vs H Q E h=>?_) (fun cdv A outer s H vs Q E hr h=>?_)
 . obtain ⟨gl,xs,L,rfl,_⟩:=h
   rfl
 . obtain ⟨gl,xs,L,rfl,gx,gi,low,h500,k⟩:=h
   have hr1:Room 1 _:=hr.mono (by decide)
   refine ⟨_,pss_cons (ps_set (i:=1) sc_word.nd rfl (Or.inl rfl) (pe_lst pa_nil))
    (pss_cons (ps_set (i:=2) sc_word.nd rfl (Or.inr rfl) (pe_glob (v:=.ref T.a_STAYING) (by rfl) T.t_STAYING.m rfl))
    (pss_cons (ps_for PassesOwn.never rfl (pi_reversed (by rfl) T.b_reversed (pa_cons (pv 0) pa_nil)) (pg_name (i:=3) sc_word.nd rfl (Or.inl rfl))
     (pss_one (ps_if (pt_cmp (pc_topInT K W.eff (by rfl) (pe_at 3 0)) (by with_unfolding_all rfl))
      (pss_one (ps_set (i:=2) sc_word.nd rfl (Or.inr rfl) (pe_call G1 hr1 (by rfl) T.d_followed.m T.d_followed.F.kp T.d_followed.b .nil pass0 (pa_cons (pe_topT K W.eff (by rfl) (pe_at 3 0) (fun _ _=>rfl)) (pa_cons (pv 2) pa_nil)))))
      (pss_one (ps_set (i:=2) sc_word.nd rfl (Or.inr rfl) (pe_call G3 hr (by rfl) T.d_with_t_ahead.m T.d_with_t_ahead.F.kp T.d_with_t_ahead.b .nil pass0 (pa_cons (pe_at 3 0) (pa_cons (pv 2) (pa_cons (pv 1) pa_nil)))))))))
    (pss_cons (ps_setLc (i:=4) (own:=[("word",5)]) rfl sc_word.nd rfl rfl (sw_true rfl rfl rfl (by decide +kernel)) (pi_tup (pe_glob (v:=.ref W.a_wrd) (by rfl) W.wrd rfl)) (blkOk_by (by show blkC ["gates","pieces","start","gate","first","word","axis"] (defScope s_word_of) _ _=true; decide +kernel))
     (fun s H C cl fp=>pg_name (i:=5) sc_word.nd rfl (Or.inl rfl) (.inr rfl)) (fun _ _ _ _ _=>pts_one (pt_cmpR (op_eqDK K hr.units) (pe_call G2 hr (by rfl) T.d_effect_of.m T.d_effect_of.F.kp T.d_effect_of.b .nil pass0 (pa_cons (pv 5) pa_nil)) (pv 2) (nomark _))) (fun _ _ _ _ _=>pv 5))
    (pss_one (ps_ret (pe_op op_add_str (pe_ix ix_list (pv 4) pe_int (fun _ _=>rfl)) (pe_join pe_str (pe_lc (own:=[("axis",6)]) rfl sc_word.nd (pi_reversed (by rfl) T.b_reversed (pa_cons (pv 1) pa_nil)) (blkOk_by (by show blkC ["gates","pieces","start","gate","first","word","axis"] (defScope s_word_of) _ _=true; decide +kernel))
     (fun s H C cl fp=>pg_name (i:=6) sc_word.nd rfl (Or.inl rfl) (.inr rfl)) (fun _ _ _ _ _=>pts_nil) (fun _ _ _ _ _=>pe_topS K W.pcs (by rfl) (pv 6) (fun _ _=>rfl)))))))))),?_⟩
   refine ⟨Nat.zero_le _,fun pl hpl=>?_⟩
   have hlen:=gi.len
   have e0:Same H (upd H pl (.lst [])):=Same.upd hpl
   refine ⟨_,rfl,gl,xs,rfl,SqL.of (e0 _ _ gx),for_rev (K:=K) (a:=gl) (xs:=xs) (fun i σ H'=>∃ (t:Addr) (v3:Option V),σ=[some (.ref gl),some (.ref pl),some (.ref t),v3,none,none,none]/\Same H H'/\H' pl=some (.lst (pcV (byW ((L.drop (L.length - i)).map (·.1))).2))/\SqT K H' t (effV (byW ((L.drop (L.length - i)).map (·.1))).1))
    ⟨T.a_STAYING,none,rfl,e0,?_,?_⟩ (fun i σ H' _ ⟨_,_,_,e,_⟩=>SqL.of (e _ _ gx)) ?_ ?_⟩
   . rw [upd_same,Nat.sub_zero,List.drop_length]
     rfl
   . rw [Nat.sub_zero,List.drop_length]
     exact T.t_STAYING.at_ _
   . rintro i v σ H' hi hv ⟨t,v3,rfl,e,hp,ht⟩
     obtain ⟨z,hzL,tp,rfl,htp⟩:=paired_get gi hv
     rw [hlen] at hi hzL
     have hz8:=low z (List.mem_of_getElem? hzL)
     have htp':=e _ _ htp
     have hsn:=by_snoc hi hzL
     have lowd:∀ g ∈ (L.drop (L.length - i)).map (·.1),g < 8:=fun g hg=>by
      obtain ⟨y,hy,rfl⟩:=List.mem_map.mp hg
      exact low y (List.mem_of_mem_drop hy)
     have inv:=OmForm.inv_by _ lowd
     have hpn:pl ≠ gl:=fun q=>by rw [q,gx] at hpl; cases hpl
     have bl:(byW ((L.drop (L.length - i)).map (·.1))).2.length<=600:=by
      have:=by_len ((L.drop (L.length - i)).map (·.1))
      rw [List.length_map,List.length_drop] at this
      omega
     refine ⟨tp,_,_,rfl,SqT.of htp',rfl,_,rfl,_,rfl,?_⟩
     rw [in_effT hz8]
     refine ite2 (fun h=>?_) (fun h=>?_)
     . have h6:z.1 < 6:=of_decide_eq_true h
       obtain ⟨hl,hx⟩:=axok_g h6
       have es:stepW z.1 (byW ((L.drop (L.length - i)).map (·.1)))=(followed (effG z.1) (byW ((L.drop (L.length - i)).map (·.1))).1,(byW ((L.drop (L.length - i)).map (·.1))).2):=by
        unfold OmForm.stepW
        rw [if_pos h6]
       refine ⟨tp,_,_,rfl,SqT.of htp',rfl,_,_,rfl,hl,fun r hr=>⟨_,rfl,r,t,_,_,rfl,hr H',ht,hx,fun H2 t2 e2 h2=>⟨t2,_,rfl,e.trans e2,?_,?_⟩⟩⟩
       . rw [hsn,es]
         exact e2 _ _ hp
       . rw [hsn,es]
         exact h2
     . have h6:¬ z.1 < 6:=fun q=>h (decide_eq_true q)
       have es:stepW z.1 (byW ((L.drop (L.length - i)).map (·.1)))=withT z.1 (byW ((L.drop (L.length - i)).map (·.1))).1 (byW ((L.drop (L.length - i)).map (·.1))).2:=by
        unfold OmForm.stepW
        rw [if_neg h6]
       refine ⟨tp,_,_,rfl,SqT.of htp',rfl,_,rfl,_,rfl,z.1,t,pl,_,_,rfl,by omega,inv.e,inv.ps,bl,ht,hp,fun H2 t2 e2 h2 h3=>⟨t2,_,rfl,fun c o q=>e2 c o (ne_of_none q hpl) (e c o q),?_,?_⟩⟩
       . rw [hsn,es]
         exact h2
       . rw [hsn,es]
         exact h3
   . rintro σ H' ⟨t,v3,rfl,e,hp,ht⟩
     rw [hlen,Nat.sub_self,List.drop_zero] at hp ht
     have inv:=OmForm.inv_by (L.map (·.1)) (fun g hg=>by
      obtain ⟨y,hy,rfl⟩:=List.mem_map.mp hg
      exact low y hy)
     obtain ⟨fx,hfx,hfw,hf6⟩:=picked_first inv.e
     refine ⟨W.a_wrd,rfl,⟨_,W.wrds _⟩,fun D hD=>?_⟩
     have hDp:D ≠ pl:=fun q=>by rw [q,hp] at hD; cases hD
     refine lc_tup (K:=K) (a:=W.a_wrd) (xs:=wordS.map V.str) (fun i H2=>Same H' H2/\H2 D=some (.lst ((picked_ (byW (L.map (·.1))).1 (wordS.take i)).map V.str))) ⟨Same.upd hD,upd_same⟩ (fun i H2 _ _=>W.wrds _) ?_ ?_
     . rintro i x H2 hi ⟨e2,hy⟩
       obtain ⟨c,hc,rfl⟩:∃ c,wordS[i]? = some c/\x = .str c:=by
        rw [List.getElem?_map] at hi
        cases z:wordS[i]? with
        | none=>rw [z] at hi; cases hi
        | some c=>rw [z] at hi; exact ⟨c,rfl,(Option.some.inj hi).symm⟩
       refine ⟨rfl,_,rfl,c,rfl,fun H3 t3 e3 h3=>?_⟩
       refine ⟨_,rfl,_,_,eff_dp h3,eff_dp (e3.tup (e2.tup ht)),eff_shaped _,eff_shaped _,_,rfl,?_⟩
       rw [eff_eqv]
       have ps:picked_ (byW (L.map (·.1))).1 (wordS.take (i + 1))=picked_ (byW (L.map (·.1))).1 (wordS.take i) ++ (if effOf (tlS c)=(byW (L.map (·.1))).1 then [c] else []):=by
        unfold picked_
        rw [take_snoc hc,List.filter_append,List.filter_cons,List.filter_nil]
        by_cases q:effOf (tlS c)=(byW (L.map (·.1))).1
        . rw [decide_eq_true q,if_pos rfl,if_pos q]
        . rw [decide_eq_false q,if_neg (by decide),if_neg q]
       refine ite2 (fun h=>?_) (fun h=>?_)
       . refine ⟨_,rfl,_,e3 _ _ hy,?_,Same.grown hD (e2.trans e3),?_⟩
         . rw [List.length_map]
           have h1:(picked_ (byW (L.map (·.1))).1 (wordS.take i)).length<=(wordS.take i).length:=List.length_filter_le _ _
           have h2:(wordS.take i).length<=24:=by rw [List.length_take]; exact Nat.min_le_right _ _
           exact small (by omega)
         . rw [upd_same,ps,if_pos (show effOf (tlS c)=(byW (L.map (·.1))).1 from of_decide_eq_true h),List.map_append]
           rfl
       . refine ⟨e2.trans e3,?_⟩
         rw [e3 _ _ hy,ps,if_neg (show ¬ effOf (tlS c)=(byW (L.map (·.1))).1 from fun q=>h (decide_eq_true q)),List.append_nil]
     . rintro H2 ⟨e2,hy⟩
       have hp2:=e2 _ _ hp
       have hy:H2 D=some (.lst ((picked_ (byW (L.map (·.1))).1 wordS).map V.str)):=hy
       rw [hfx] at hy
       refine ⟨_,rfl,D,_,(0:Int),_,rfl,rfl,SqL.of hy,rfl,⟨_,rfl⟩,_,rfl,pl,_,rfl,SqL.of hp2,fun D2 hD2=>?_⟩
       have bl:(byW (L.map (·.1))).2.length<=500:=by
        have:=by_len (L.map (·.1))
        rw [List.length_map] at this
        omega
       have hpl2:(pcV (byW (L.map (·.1))).2).length=(byW (L.map (·.1))).2.length:=by
        unfold pcV
        rw [List.length_map,List.length_reverse]
       refine lc_rev (K:=K) (a:=pl) (xs:=pcV (byW (L.map (·.1))).2) (fun i H3=>Same H2 H3/\∃ ys:List Str,H3 D2=some (.lst (ys.map V.str))/\ys.flatMap tlS=tailW ((byW (L.map (·.1))).2.take i)/\ys.length=i/\(ys.map (·.length)).sum<=3 * i) ⟨Same.upd hD2,[],upd_same,rfl,rfl,Nat.le_refl _⟩ (fun i H3 _ ⟨e3,_⟩=>SqL.of (e3 _ _ hp2)) ?_ ?_
       . rintro i v H3 hi hv ⟨e3,ys,h1,h2,h3,h4⟩
         rw [hpl2] at hi
         obtain ⟨c,hc,rfl⟩:∃ c,(byW (L.map (·.1))).2[i]? = some c/\v = .int c:=by
          rw [hpl2] at hv
          unfold pcV at hv
          rw [List.getElem?_map,List.getElem?_reverse (by omega)] at hv
          have ei:(byW (L.map (·.1))).2.length - 1 - ((byW (L.map (·.1))).2.length - 1 - i)=i:=by omega
          rw [ei] at hv
          cases z:(byW (L.map (·.1))).2[i]? with
          | none=>rw [z] at hv; cases hv
          | some c=>rw [z] at hv; exact ⟨c,rfl,(Option.some.inj hv).symm⟩
         have hc3:c=1 \/ c=2 \/ c=3:=by
          have:=inv.ps.mem c (List.mem_of_getElem? hc)
          simpa using this
         obtain ⟨x,hv2,hx,hx3⟩:=piece_str hc3
         refine ⟨rfl,_,rfl,c,_,rfl,hv2,_,h1,?_,Same.grown hD2 e3,ys ++ [x],?_,?_,?_,?_⟩
         . rw [List.length_map,h3,sizeLine_eq]
           omega
         . rw [upd_same,List.map_append]
           rfl
         . rw [List.flatMap_append,h2,take_snoc hc]
           unfold OmForm.tailW
           rw [List.flatMap_append]
           simp [hx]
         . rw [List.length_append,h3]
           rfl
         . rw [List.map_append,List.sum_append]
           simp
           omega
       . rintro H3 ⟨e3,ys,h1,h2,h3,h4⟩
         rw [hpl2] at h3 h4
         have hall:(byW (L.map (·.1))).2.take (pcV (byW (L.map (·.1))).2).length=(byW (L.map (·.1))).2:=by rw [hpl2,List.take_length]
         rw [hall] at h2
         have l0:("" : Str).length=0:=by decide +kernel
         have hj:Txt.join ("" : Str) ys=Str.join ("" : Str) ys:=TL.join_eq ("" : Str) ys
         have htl:tlS (fx ++ Txt.join ("" : Str) ys)=wordBy (L.map (·.1)):=by
          show TL.tl (fx ++ Txt.join ("" : Str) ys)=_
          rw [TL.tl_append,hj]
          show tlS fx ++ tlS (Str.join ("" : Str) ys)=_
          rw [join_tl,h2,hfw]
          try rfl
         have hlens:(ys.flatMap tlS).length<=3 * (byW (L.map (·.1))).2.length:=by
          have:(ys.flatMap tlS).length=(ys.map (·.length)).sum:=by
           rw [List.length_flatMap]
           refine congrArg List.sum (List.map_congr_left fun y _=>?_)
           exact (TL.len_tl y).symm
          omega
         have hjl:(Txt.join ("" : Str) ys).length<=1500:=by
          rw [TL.len_tl,hj]
          show (tlS (Str.join ("" : Str) ys)).length<=1500
          rw [join_tl]
          omega
         refine ⟨("" : Str),D2,ys,rfl,rfl,.inl (SqL.of h1),?_,_,_,rfl,rfl,?_,?_⟩
         . rw [l0]
           omega
         . rw [sizeLine_eq]
           omega
         . refine k _ _ ((e.trans e2).trans e3) htl ?_
           rw [TL.len_tl,TL.tl_append,List.length_append,<- TL.len_tl,<- TL.len_tl]
           omega
def ansF (a:Ans):List V:=intV (a.code :: a.nums)
def formOf (t:Omega.Text):Ans:=if LONG < t.length then says (-2) else match circuitIn 1 FORMED t (-6) with
 | .error a=>a
 | .ok l=>tells ((wordOf l).map fun (x:Nat)=>(x:Int))
theorem readF_good {t:List Nat} {L:List Omega.Step} (h:readRes 1 t = .good L):circuitIn 1 FORMED t (-6)=if 500 < L.length then .error (says (-5)) else .ok L:=by
 unfold readRes at h
 unfold circuitIn
 cases e:readText 1 t with
 | bad p=>rw [e] at h; cases h
 | ok c r=>
  rw [e] at h
  injection h with h
  subst h
  dsimp only
  rw [steps_length]
  rfl
theorem readF_fault {t:List Nat} {p:Nat} (h:readRes 1 t = .fault p):circuitIn 1 FORMED t (-6) = .error ⟨-6,[(p:Int)]⟩:=by
 unfold readRes at h
 unfold circuitIn
 cases e:readText 1 t with
 | bad q=>
  rw [e] at h
  injection h with h
  subst h
  rfl
 | ok c r=>rw [e] at h; cases h
def spTheForm (K:PySem.W.Frag):Sp:=fun vs H Q _=>∃ (ta:Addr) (la:List Nat),vs=[.ref ta]/\SqL K H ta (natV la)/\∀ (H':Hp) (p:Addr),Same H H'->H' p=some (.lst (ansF (formOf la)))->Q (.ref p) H'
theorem sc_theForm:FnScope ["text","circuit","fault","letter"] ["text"] (defScope s_form):=⟨rfl,rfl,rfl,by decide +kernel,rfl,by decide +kernel,by decide +kernel⟩
theorem ok_theForm (T:Tx K mg) (U:Dx K mg T) (W:Wx K mg) {CF fi:Addr} {gF:FuncData} (Z:FaultAt K mg CF fi gF) (he:mg "Exception" = none) (Mf:PySem.W.exmOne K (.ref CF) (.ref CF)=some true):FnOk P w K mg base CX0 6 T.f_form T.g_form ["text"] (spTheForm K):=by
 have G1:FnOk P w K mg base (CXE P w) 5 T.f_circuit_read T.g_circuit_read ["text","qubits"] (spRead K T.C_Block CF):=ok_read T U Z he
 have G2:FnOk P w K mg base CX0 3 T.f_word_of T.g_word_of ["gates"] (spWord K):=ok_word T W
 refine T.d_form.F.ok sc_theForm (fun vs H Q E h=>?_) (fun cdv A outer s H vs Q E hr h=>?_)
 . obtain ⟨ta,la,rfl,_⟩:=h
   rfl
 . obtain ⟨ta,la,rfl,hta,hQ⟩:=h
   have hr3:Room 3 _:=hr.mono (by decide)
   let E1:XK:=fun cls dx H'=>cls = .ref CF/\∃ (dd:Addr) (p:Nat),dx=some dd/\H' dd=some (.xd [("place",.int (p:Int))])/\Same H H'/\formOf la = ⟨-6,[(p:Int)]⟩
   refine ⟨_,pss_cons (ps_if (pt_cmpR op_gt (pe_callB call_len_seq (by rfl) T.b_len boot_len' (pa_cons (pv 0) pa_nil)) (pe_topI T.i_MOST_BYTES) (nomark _)) (pss_one (ps_ret (pe_lst (pa_cons (pe_topI T.i_TOO_LARGE) pa_nil)))) pss_nil)
    (pss_cons (ps_tryN (Eb:=E1) (i:=2) (C2:=CF) rfl rfl (fun W pn hpass=>pss_one (ps_set (i:=1) sc_theForm.nd rfl (Or.inl rfl) (pe_call G1 hr (by rfl) T.d_circuit_read.m T.d_circuit_read.F.kp T.d_circuit_read.b .nil hpass (pa_cons (pv 0) (pa_cons pe_int pa_nil))))) (by rfl) Z.m Mf
     (fun ea=>pss_one (ps_ret (pe_lst (pa_cons (pe_topI T.i_FAULTY) (pa_cons (pe_place Z (pv 2)) pa_nil))))) sc_theForm.nd rfl rfl rfl)
    (pss_cons (ps_if (pt_cmpR op_gt (pe_fld (pv 1) rfl) (pe_topI T.i_MOST_GATES_OF_A_FORM) (nomark _)) (pss_one (ps_ret (pe_lst (pa_cons (pe_topI T.i_TOO_MANY) pa_nil)))) pss_nil)
    (pss_one (ps_ret (pe_op op_cat (pe_lst (pa_cons pe_int pa_nil)) (pe_lc (own:=[("letter",3)]) rfl sc_theForm.nd (pi_str (pe_call G2 hr3 (by rfl) T.d_word_of.m T.d_word_of.F.kp T.d_word_of.b .nil pass0 (pa_cons (pe_fld (pv 1) rfl) pa_nil))) (blkOk_by (by show blkC ["text","circuit","fault","letter"] (defScope s_form) _ _=true; decide +kernel))
     (fun s H C cl fp=>pg_name (i:=3) sc_theForm.nd rfl (Or.inl rfl) (.inr rfl)) (fun _ _ _ _ _=>pts_nil) (fun _ _ _ _ _=>pe_callB call_ord (by rfl) T.b_ord boot_ord (pa_cons (pv 3) pa_nil)))))))),?_⟩
   have tell:∀ {a:Ans} (H1:Hp),Same H H1->formOf la=a->∀ r,H1 r=none->Q (.ref r) (L2.upd H1 r (.lst (ansF a))):=fun H1 e ea r hr=>by
    refine hQ _ r (e.trans (Same.upd hr)) ?_
    rw [ea]
    exact upd_same
   refine ⟨_,rfl,ta,natV la,rfl,.inl hta,_,_,rfl,rfl,_,rfl,?_⟩
   rw [natV_length]
   refine ite2 (fun hc=>?_) (fun hc=>?_)
   . refine ⟨few (by simp),fun r hr=>tell (a:=says (-2)) H (Same.refl H) ?_ r hr⟩
     have hlt:LONG < la.length:=Int.ofNat_lt.mp (of_decide_eq_true hc)
     unfold formOf
     exact if_pos hlt
   have hla:la.length<=4096:=Nat.le_of_not_lt fun z=>hc (decide_eq_true (Int.ofNat_lt.mpr z))
   have eF:formOf la=match circuitIn 1 FORMED la (-6) with
    | .error a=>a
    | .ok l=>tells ((wordOf l).map fun (x:Nat)=>(x:Int)):=by
    unfold formOf
    exact if_neg (show ¬ LONG < la.length from Nat.not_lt.mpr hla)
   refine ⟨⟨_,rfl,ta,1,la,rfl,hta,hla,by decide,fun L hL H1 cb gl bkk e1 hB=>?_,fun b hbad dd H' e2 hdd=>⟨rfl,dd,b,rfl,hdd,e2,by rw [eF,readF_fault hbad]⟩⟩,fun cls dx H' hE=>?_⟩
   rotate_left
   . obtain ⟨rfl,dd,p,rfl,hdd,e2,hcmp⟩:=hE
     refine ⟨rfl,dd,rfl,fun ea hea=>?_⟩
     have ne:dd ≠ ea:=fun z=>by rw [z,hea] at hdd; cases hdd
     refine ⟨_,rfl,ea,dd,.int (p:Int),rfl,upd_same,by rw [upd_ne ne]; exact hdd,few (by simp),fun r hr=>?_⟩
     refine hQ _ r ((e2.trans (Same.upd hea)).trans (Same.upd hr)) ?_
     rw [hcmp]
     exact upd_same
   have eA:=readF_good hL
   obtain ⟨⟨dxc,oc⟩,⟨xs,gx1,gx2,gx3⟩,low⟩:=hB
   have low:∀ z ∈ L,z.1 < 8:=low
   refine ⟨_,rfl,cb,_,dxc,_,_,rfl,oc,T.d_Block.c,T.n_Block_total,rfl,_,_,rfl,rfl,_,rfl,?_⟩
   refine ite2 (fun hc=>?_) (fun hc=>?_)
   . refine ⟨few (by simp),fun r hr=>tell (a:=says (-5)) H1 e1 ?_ r hr⟩
     rw [eF,eA,if_pos (Int.ofNat_lt.mp (of_decide_eq_true hc))]
   have h5:L.length<=500:=Nat.le_of_not_lt fun z=>hc (decide_eq_true (Int.ofNat_lt.mpr z))
   rw [eA,if_neg (Nat.not_lt.mpr h5)] at eF
   refine ⟨few (by simp),fun p1 hp1=>?_⟩
   have e2:Same H1 (upd H1 p1 (.lst [.int 0])):=Same.upd hp1
   refine ⟨_,rfl,cb,_,dxc,_,_,rfl,e2 _ _ oc,T.d_Block.c,T.n_Block_gates,rfl,gl,xs,L,rfl,e2 _ _ gx1,(gx3 (show L.length<=2000 by omega)).kt (KT.same e2),low,h5,fun H3 x e3 hx hx2=>⟨x,rfl,fun D hD=>?_⟩⟩
   refine lc_str (x:=x) (fun i H4=>Same H3 H4/\H4 D=some (.lst (((tlS x).take i).map fun c=>V.int (c:Nat)))) ⟨Same.upd hD,upd_same⟩ ?_ ?_
   . rintro i c H4 hc4 ⟨e4,hy⟩
     have hc':(tlS x)[i]? = some c:=by
      show x.cps.toList[i]? = some c
      rw [Array.getElem?_toList]
      exact hc4
     have hi:i < (tlS x).length:=(List.getElem?_eq_some_iff.mp hc').1
     have hl:(tlS x).length=x.length:=(TL.len_tl x).symm
     refine ⟨rfl,_,rfl,⟨#[c]⟩,rfl,rfl,_,hy,?_,Same.grown hD e4,?_⟩
     . rw [List.length_map,List.length_take,sizeLine_eq]
       omega
     . rw [upd_same,take_snoc hc',List.map_append]
       rfl
   . rintro H4 ⟨e4,hy⟩
     have hl:x.cps.size=(tlS x).length:=Array.length_toList.symm
     rw [hl,List.take_length] at hy
     have hlen:(tlS x).length<=2000:=by
      have:(tlS x).length=x.length:=(TL.len_tl x).symm
      omega
     have p1s:H4 p1=some (.lst [.int 0]):=e4 _ _ (e3 _ _ upd_same)
     refine ⟨p1,D,_,_,rfl,rfl,p1s,hy,?_,fun r hr=>?_⟩
     . rw [List.length_map,sizeLine_eq]
       show 1 + _<=_
       omega
     . refine hQ _ r ((((e1.trans e2).trans e3).trans e4).trans (Same.upd hr)) ?_
       have eF2:formOf la=tells ((wordOf L).map fun (x:Nat)=>(x:Int)):=eF
       rw [eF2,OmForm.word_by (l:=L) low,<- hx,upd_same]
       show _=some (HO.lst (intV (0 :: (tlS x).map fun (x:Nat)=>(x:Int))))
       unfold intV
       rw [List.map_cons,List.map_map]
       rfl
end
end Q
end
section
end
section
end
section
end
section
namespace Q
open PySem PySem.Spec PyProof.Rows L2 Omega OmMath
theorem nat_row {t:List Int} (h:∀ z ∈ t,0<=z):intV t=natV (OmNeutral.nats t):=by
 unfold intV natV OmNeutral.nats
 rw [List.map_map]
 refine List.map_congr_left fun z hz=>?_
 show V.int z=V.int ((z.toNat:Nat):Int)
 rw [Int.toNat_of_nonneg (h z hz)]
end Q
end
section
end
section
namespace Q
open PySem PySem.Spec PyProof.Rows L2
section
variable {K:PySem.W.Frag} {mg:Str->Option Value} {h:Heap} {x q:Str} {st:Stmt} {ps:List Str} {f C a:Addr} {oc:Value} {od an:Option Addr} {osl:Array (Option Value)} {kV doc pm cdv ct:Value}
theorem def_mk (X:K.In h) (G:h.Ns mainGlobals mg) (ha:PySem.W.nsIn K mainGlobals x=some (some (.ref f))) (l:K.lookup f=some ⟨oc,od,.func (PySem.W.fnOf x x (defArgs st) (defBody st) (defScope st) .none kV doc pm an cdv ct),osl⟩)
 (c:PySem.W.codeIn K cdv x=true) (k:PySem.W.keepIn K (.ref f)=true) (b:Binds K (PySem.W.fnOf x x (defArgs st) (defBody st) (defScope st) .none kV doc pm an cdv ct) ps []):DefAt K mg x st ps f (PySem.W.fnOf x x (defArgs st) (defBody st) (defScope st) .none kV doc pm an cdv ct):=
 ⟨fun_mk l c k,b,PySem.W.mg_of X G ha⟩
theorem meth_mk (ha:PySem.W.findIn K (.ref C) x=some (some (.ref f))) (i:PySem.W.isFn K (.ref f)=true) (l:K.lookup f=some ⟨oc,od,.func (PySem.W.fnOf x q (defArgs st) (defBody st) (defScope st) .none kV doc pm an cdv ct),osl⟩)
 (c:PySem.W.codeIn K cdv q=true) (k:PySem.W.keepIn K (.ref f)=true) (b:Binds K (PySem.W.fnOf x q (defArgs st) (defBody st) (defScope st) .none kV doc pm an cdv ct) ps []):MethAt K C x q st ps f (PySem.W.fnOf x q (defArgs st) (defBody st) (defScope st) .none kV doc pm an cdv ct):=
 ⟨fun_mk l c k,b,⟨ha,i,k⟩⟩
theorem init_mk (X:K.In h) (G:h.Ns mainGlobals mg) (hC:PySem.W.nsIn K mainGlobals x=some (some (.ref C))) (ha:PySem.W.findIn K (.ref C) "__init__" = some (some (.ref f))) (i:PySem.W.isFn K (.ref f)=true)
 (l:K.lookup f=some ⟨oc,od,.func (PySem.W.fnOf "__init__" q (defArgs st) (defBody st) (defScope st) .none kV doc pm an cdv ct),osl⟩) (c:PySem.W.codeIn K cdv q=true) (k:PySem.W.keepIn K (.ref f)=true)
 (pg:PySem.W.plainGet K C Str.empty=true) (hd:PySem.W.hasDictIn K C=true) (po:PySem.W.plainOver K C=true) (sa:PySem.W.findIn K (.ref C) "__setattr__" = some (some (.builtin "object.__setattr__"))) (mk:PySem.W.makesIn K C=true) (kc:PySem.W.keepIn K (.ref C)=true)
 (b:Binds K (PySem.W.fnOf "__init__" q (defArgs st) (defBody st) (defScope st) .none kV doc pm an cdv ct) ps []):InitAt K mg x q C st ps f (PySem.W.fnOf "__init__" q (defArgs st) (defBody st) (defScope st) .none kV doc pm an cdv ct):=
 ⟨⟨pg,hd,po,sa⟩,PySem.W.mg_of X G hC,⟨mk,ha,i,kc⟩,fun_mk l c k,b⟩
theorem int_mk {i:Int} {t:Tok} (X:K.In h) (G:h.Ns mainGlobals mg) (ha:PySem.W.nsIn K mainGlobals x=some (some (.int i t))):IntAt mg x i:=⟨t,PySem.W.mg_of X G ha⟩
theorem tup_mk {its:Array Value} {n:Nat} {ns:List Int} (X:K.In h) (G:h.Ns mainGlobals mg) (ha:PySem.W.nsIn K mainGlobals x=some (some (.ref a))) (l:K.lookup a=some ⟨.type "tuple",od,.seq its n,osl⟩) (hz:its.size<=sizeLine) (hv:Vals (ns.map V.int) its.toList):TupAt K mg x a ns:=
 ⟨PySem.W.mg_of X G ha,fun H=>.inr ⟨_,its,n,l,rfl,rfl,hz,hv⟩⟩
theorem none_mk (X:K.In h) (G:h.Ns mainGlobals mg) (ha:PySem.W.nsIn K mainGlobals x=some none):mg x=none:=PySem.W.ns_none_of X G ha
end
def EntAt (e:DictEntry) (kv:Int × V):Prop:=(∃ t,e.key = .int kv.1 t)/\e.hash=hashInt kv.1/\RelV kv.2 e.val
theorem ents_of {P:Program} {w:World}:∀ {es:List DictEntry} {kvs:List (Int × V)},Paired EntAt es kvs->∃ vs,KV (keyed kvs) vs/\Pairs (mixKind P w) es vs/\vs.map (·.1)=(keyed kvs).map (·.1)/\∀ e ∈ es,∃ k,(mixKind P w).is k e.key=true/\e.hash=(mixKind P w).hash k
 | _,_,.nil=>⟨[],.nil,.nil,rfl,fun e he=>by cases he⟩
 | _,_,.cons (a:=e) (b:=kv) r t=>by
  obtain ⟨vs,h1,h2,h3,h4⟩:=ents_of (P:=P) (w:=w) t
  obtain ⟨⟨tk,ek⟩,hh,rv⟩:=r
  have hk:(mixKind P w).is (Sum.inl kv.1) e.key=true:=by
   rw [ek]
   show Value.isInt kv.1 (.int kv.1 tk)=true
   simp [Value.isInt]
  refine ⟨((Sum.inl kv.1:Key),e.val) :: vs,.cons ⟨rfl,rv⟩ h1,.cons hk rfl h2,?_,?_⟩
  . show (Sum.inl kv.1:Key) :: vs.map (·.1)=(Sum.inl kv.1:Key) :: (keyed _).map (·.1)
    rw [h3]
  . intro e' he'
    rcases List.mem_cons.mp he' with rfl | he'
    . exact ⟨_,hk,hh⟩
    . exact h4 e' he'
theorem dic_mk {K:PySem.W.Frag} {mg:Str->Option Value} {h:Heap} {x:Str} {a:Addr} {es:Array DictEntry} {ep:Nat} {kvs:List (Int × V)} (X:K.In h) (G:h.Ns mainGlobals mg) (ha:PySem.W.nsIn K mainGlobals x=some (some (.ref a)))
 (l:K.lookup a=some ⟨.type "dict",none,.dict es ep,#[]⟩) (ne:(a == sysModules)=false) (he:Paired EntAt es.toList kvs) (nd:((keyed kvs).map (·.1)).Nodup):DicAt K mg x a kvs:=by
 refine ⟨PySem.W.mg_of X G ha,ne,fun P w h' X'=>?_⟩
 obtain ⟨vs,h1,h2,h3,h4⟩:=ents_of (P:=P) (w:=w) he
 refine ⟨vs,h1,_,es,ep,X' _ _ l,⟨rfl,rfl,rfl⟩,rfl,fun e he=>h4 e (Array.mem_toList_iff.mpr he),h2,by rw [h3]; exact nd⟩
section
variable {K:PySem.W.Frag} {mg:Str->Option Value} {h:Heap} {x y q:Str} {st:Stmt} {ps:List Str} {f f' fi C C' CT CF CT' CF' N:Addr} {oc:Value} {od an:Option Addr} {osl:Array (Option Value)} {kV doc pm cdv ct:Value} {g:FuncData}
theorem one_of {v u:Value} (X:K.In h) (G:h.Ns mainGlobals mg) (hm:mg x=some v) (a:PySem.W.nsIn K mainGlobals x=some (some u)):v=u:=Option.some.inj (hm.symm.trans (PySem.W.mg_of X G a))
theorem ref_of (X:K.In h) (G:h.Ns mainGlobals mg) (hm:mg x=some (.ref f)) (a:PySem.W.nsIn K mainGlobals x=some (some (.ref f'))):f=f':=Value.ref.inj (one_of X G hm a)
theorem meth_at (X:K.In h) (G:h.Ns mainGlobals mg) (hC:mg y=some (.ref C)) (aC:PySem.W.nsIn K mainGlobals y=some (some (.ref C'))) (ha:PySem.W.findIn K (.ref C') x=some (some (.ref f))) (i:PySem.W.isFn K (.ref f)=true)
 (l:K.lookup f=some ⟨oc,od,.func (PySem.W.fnOf x q (defArgs st) (defBody st) (defScope st) .none kV doc pm an cdv ct),osl⟩)
 (c:PySem.W.codeIn K cdv q=true) (k:PySem.W.keepIn K (.ref f)=true) (b:Binds K (PySem.W.fnOf x q (defArgs st) (defBody st) (defScope st) .none kV doc pm an cdv ct) ps []):MethAt K C x q st ps f (PySem.W.fnOf x q (defArgs st) (defBody st) (defScope st) .none kV doc pm an cdv ct):=by
 cases ref_of X G hC aC
 exact meth_mk ha i l c k b
theorem noattr_at (X:K.In h) (G:h.Ns mainGlobals mg) (hC:mg y=some (.ref C)) (aC:PySem.W.nsIn K mainGlobals y=some (some (.ref C'))) (ha:PySem.W.findIn K (.ref C') x=some none):NoAttr K C x:=by
 cases ref_of X G hC aC
 exact ha
theorem fault_mk {nm qn bs sn sub ab col dd k0 k1 k2 k3 k5} {cd:ClassData} (X:K.In h) (G:h.Ns mainGlobals mg) (aC:PySem.W.nsIn K mainGlobals "Fault" = some (some (.ref C))) (kp:PySem.W.keepIn K (.ref C)=true)
 (l:K.lookup C=some (excClassObj nm qn C N bs excMro true sn sub ab col dd k0 k1 k2 k3 k5 "Exception.__new__")) (no:PySem.W.nsOkIn K N=true) (ni:PySem.W.nsIn K N "__init__" = some (some (.ref fi)))
 (cl:PySem.W.clsIn K C=some cd) (mr:cd.mro = .ref C :: excMro) (hd:cd.hasDict=true) (fn:PySem.W.isFn K (.ref fi)=true)
 (lf:K.lookup fi=some ⟨.type "function",od,.func (PySem.W.fnOf "__init__" "Fault.__init__" (defArgs s_Fault_init) (defBody s_Fault_init) (defScope s_Fault_init) .none kV doc pm an cdv ct),osl⟩)
 (c:PySem.W.codeIn K cdv "Fault.__init__" = true) (k:PySem.W.keepIn K (.ref fi)=true)
 (sa:PySem.W.findIn K (.ref C) "__setattr__" = some (some (.builtin "object.__setattr__"))) (ga:PySem.W.findIn K (.ref C) "__getattribute__" = some (some (.builtin "BaseException.__getattribute__"))) (gx:PySem.W.findIn K (.ref C) "__getattr__" = some none) (pl:PySem.W.findIn K (.ref C) "place" = some none)
 (ei:PySem.W.findCls K (.type "Exception") (.type "type") "__init__" = some (.val (.builtin "Exception.__init__")))
 (b:Binds K (PySem.W.fnOf "__init__" "Fault.__init__" (defArgs s_Fault_init) (defBody s_Fault_init) (defScope s_Fault_init) .none kV doc pm an cdv ct) ["self","place"] []) :
 FaultAt K mg C fi (PySem.W.fnOf "__init__" "Fault.__init__" (defArgs s_Fault_init) (defBody s_Fault_init) (defScope s_Fault_init) .none kV doc pm an cdv ct):=
 ⟨PySem.W.mg_of X G aC,kp,⟨N,_,_,_,_,_,_,_,_,_,_,_,_,_,l,no,ni⟩,⟨cd,cl,mr,hd⟩,fn,⟨_,lf,rfl⟩,sa,ga,gx,pl,ei,fun_mk lf c k,b⟩
theorem ent_int {k i:Int} {z:Int} {t u:Tok} (hz:z=hashInt k):EntAt ⟨z,.int k t,.int i u⟩ (k,.int i):=⟨⟨t,rfl⟩,hz,⟨u,rfl⟩⟩
end
section
variable {K:PySem.W.Frag} {h:Heap}
theorem b1 {fd:FuncData} {a:Str} (h:∀ u,bindArgs fd ⟨[u],[]⟩ = pure ([a].zip [u])):Binds K fd [a] []:=.all fun us hl=>match us,hl with | [u],_=>h u
theorem b2 {fd:FuncData} {a b:Str} (h:∀ u v,bindArgs fd ⟨[u,v],[]⟩ = pure ([a,b].zip [u,v])):Binds K fd [a,b] []:=.all fun us hl=>match us,hl with | [u,v],_=>h u v
theorem b3 {fd:FuncData} {a b c:Str} (h:∀ u v x,bindArgs fd ⟨[u,v,x],[]⟩ = pure ([a,b,c].zip [u,v,x])):Binds K fd [a,b,c] []:=.all fun us hl=>match us,hl with | [u,v,x],_=>h u v x
abbrev DD (mg:Str->Option Value) (x:Str) (st:Stmt) (ps:List Str) (_:K.In h):Prop:=∃ f g,DefAt K mg x st ps f g
abbrev DM (C:Addr) (x q:Str) (st:Stmt) (ps:List Str) (_:K.In h):Prop:=∃ f g,MethAt K C x q st ps f g
abbrev DI (mg:Str->Option Value) (x q:Str) (st:Stmt) (ps:List Str) (_:K.In h):Prop:=∃ C f g,InitAt K mg x q C st ps f g
abbrev DN (C:Addr) (x:Str) (_:K.In h):Prop:=NoAttr K C x
abbrev DT (mg:Str->Option Value) (x:Str) (ns:List Int) (_:K.In h):Prop:=∃ a,TupAt K mg x a ns
abbrev DK (mg:Str->Option Value) (x:Str) (kvs:List (Int × V)) (_:K.In h):Prop:=∃ a,DicAt K mg x a kvs
abbrev DF (mg:Str->Option Value) (_:K.In h):Prop:=∃ C fi g,FaultAt K mg C fi g
end
end Q
end
section
namespace Q
open PySem PySem.Spec PyProof.Rows L2
section
variable {K:PySem.W.Frag} {mg:Str->Option Value} {h:Heap} {x:Str} {f C C' a:Addr} {g:FuncData} {od:Option Addr} {osl:Array (Option Value)}
theorem ex1_mk (X:K.In h) (G:h.Ns mainGlobals mg) (hT:mg x=some (.ref C)) (aT:PySem.W.nsIn K mainGlobals x=some (some (.ref C'))) (tt:PySem.W.exmOne K (.ref C') (.ref C')=some true):PySem.W.exmOne K (.ref C) (.ref C)=some true:=by
 cases ref_of X G hT aT
 exact tt
theorem bt_of (D:DefAt K mg "form" s_form ["text"] f g) (s:Shared) (us:List Value) (hu:us.length=(["text"]:List Str).length):BindsTo s g ⟨us,[]⟩ ((["text"]:List Str).zip us):=by
 obtain ⟨oc,od,kV,doc,pm,an,cdv,ct,osl,rfl,lk,hcd⟩:=D.F.ex
 exact match us,hu with | [_],_=>.of_eq rfl
abbrev DTx (mg:Str->Option Value) (f:Addr) (g:FuncData) (_:K.In h):Prop:=∃ T:Tx K mg,T.f_form=f/\T.g_form=g/\Nonempty (Dx K mg T)
abbrev DW (mg:Str->Option Value) (x:Str) (kts:List (Int × List Int)) (_:K.In h):Prop:=TDic K mg x kts
abbrev DS (mg:Str->Option Value) (x:Str) (ws:List Str) (_:K.In h):Prop:=∃ a,mg x=some (.ref a)/\∀ H,SqT K H a (ws.map V.str)
def EntT (K:PySem.W.Frag) (e:DictEntry) (kt:Int × List Int):Prop:=(∃ t,e.key = .int kt.1 t)/\e.hash=hashInt kt.1/\∃ r,e.val = .ref r/\∀ H,SqT K H r (kt.2.map V.int)
theorem ent_tup {k z:Int} {t:Tok} {r:Addr} {its:Array Value} {n:Nat} {ns:List Int} (hz:z=hashInt k) (l:K.lookup r=some ⟨.type "tuple",od,.seq its n,osl⟩) (hs:its.size<=sizeLine) (hv:Vals (ns.map V.int) its.toList):EntT K ⟨z,.int k t,.ref r⟩ (k,ns):=
 ⟨⟨t,rfl⟩,hz,r,rfl,fun H=>.inr ⟨_,its,n,l,rfl,rfl,hs,hv⟩⟩
theorem ent_str {k z:Int} {t u:Tok} {y:Str} (hz:z=hashInt k):EntAt ⟨z,.int k t,.str y u⟩ (k,.str y):=⟨⟨t,rfl⟩,hz,⟨u,rfl⟩⟩
theorem ents_T:∀ {es:List DictEntry} {kts:List (Int × List Int)},Paired (EntT K) es kts->∃ kvs,Paired EntAt es kvs/\Paired (TValAt K) kvs kts/\(keyed kvs).map (·.1)=kts.map fun kt=>(Sum.inl kt.1:Key)
 | _,_,.nil=>⟨[],.nil,.nil,rfl⟩
 | _,_,.cons (a:=e) (b:=kt) r t=>by
  obtain ⟨kvs,h1,h2,h3⟩:=ents_T t
  obtain ⟨hk,hh,r',hv,hs⟩:=r
  refine ⟨(kt.1,.ref r') :: kvs,.cons ⟨hk,hh,hv⟩ h1,.cons ⟨rfl,r',rfl,hs⟩ h2,?_⟩
  show (Sum.inl kt.1:Key) :: (keyed kvs).map (·.1)=_
  rw [h3]
  rfl
theorem tdic_mk {es:Array DictEntry} {ep:Nat} {kts:List (Int × List Int)} (X:K.In h) (G:h.Ns mainGlobals mg) (ha:PySem.W.nsIn K mainGlobals x=some (some (.ref a))) (l:K.lookup a=some ⟨.type "dict",none,.dict es ep,#[]⟩) (ne:(a == sysModules)=false)
 (he:Paired (EntT K) es.toList kts) (nd:(kts.map fun kt=>(Sum.inl kt.1:Key)).Nodup):TDic K mg x kts:=by
 obtain ⟨kvs,h1,h2,h3⟩:=ents_T he
 exact ⟨a,kvs,dic_mk X G ha l ne h1 (by rw [h3]; exact nd),h2⟩
theorem tups_mk {its:Array Value} {n:Nat} {ws:List Str} (X:K.In h) (G:h.Ns mainGlobals mg) (ha:PySem.W.nsIn K mainGlobals x=some (some (.ref a))) (l:K.lookup a=some ⟨.type "tuple",od,.seq its n,osl⟩) (hz:its.size<=sizeLine) (hv:Vals (ws.map V.str) its.toList):mg x=some (.ref a)/\∀ H,SqT K H a (ws.map V.str):=
 ⟨PySem.W.mg_of X G ha,fun H=>.inr ⟨_,its,n,l,rfl,rfl,hz,hv⟩⟩
end
theorem row_nn {l:List Int} (h:PySem.W.Codec.inList 0 5000 (PySem.W.Codec.inInt 0 255) l=true):∀ z ∈ l,0<=z:=by
 unfold PySem.W.Codec.inList at h
 rw [Bool.and_eq_true] at h
 intro z hz
 have:=List.all_eq_true.mp h.2 z hz
 unfold PySem.W.Codec.inInt at this
 rw [Bool.and_eq_true] at this
 exact of_decide_eq_true this.1
theorem form_due (a:List Int):PyWqaqas.form a=(formOf (OmNeutral.nats a)).code :: (formOf (OmNeutral.nats a)).nums:=rfl
end Q
open PySem PySem.W PyProof.Rows
theorem Q.asks (K:PySem.W.Frag) (H:L2.Hp) (xs:List L2.V) (a:Codec.denoteAll PySem.Challenge.rw_exactqubits_s13_form.args) (hO:L2.OnlyF H) (hwi:Codec.withinAll PySem.Challenge.rw_exactqubits_s13_form.args a=true) (hask:Codec.app PySem.Challenge.rw_exactqubits_s13_form.args PySem.Challenge.rw_exactqubits_s13_form.asked a=true)
 (hx:L2.DwAll K H xs (Codec.encAll PySem.Challenge.rw_exactqubits_s13_form.args a)):Q.spTheForm K xs H (fun v H'=>L2.Dw K H' v (PySem.Challenge.rw_exactqubits_s13_form.ret.enc (Codec.app PySem.Challenge.rw_exactqubits_s13_form.args PySem.Challenge.rw_exactqubits_s13_form.f a))) fun _ _ _=>False:=by
 obtain ⟨la,u⟩:=a
 have q:(Codec.inList 0 5000 (Codec.inInt 0 255) la && true)=true:=hwi
 simp only [Bool.and_eq_true] at q
 cases hx with
 | cons h1 t1=>
  cases t1
  cases h1 with
  | lst hs1 ha1=>
   have e1:=L2.ints_dw la _ ha1
   subst e1
   have r1:la.map L2.V.int=Q.natV (OmNeutral.nats la):=Q.nat_row (Q.row_nn q.1)
   rw [r1] at hs1
   refine ⟨_,OmNeutral.nats la,rfl,hs1,fun H' p _ hp=>?_⟩
   show L2.Dw K H' _ (PySem.Challenge.rw_exactqubits_s13_form.ret.enc (PyWqaqas.form la))
   rw [Q.form_due]
   exact .lst (L2.SqL.of hp) (L2.dw_ints _)
end
open PySem PySem.W PyProof.Rows
set_option maxRecDepth 100000 in
set_option maxHeartbeats 0 in
theorem PySem.Challenge.cw_exactqubits_s13_form_holds : PySem.Challenge.rw_exactqubits_s13_form.Holds := by
 w_on; k_headS; (case hw=>exact ⟨[.list []],by decide +kernel,by decide +kernel⟩)
 k_fillS
 refine L2.walk_specK (r:=PySem.Challenge.rw_exactqubits_s13_form) (k:=6) (CX:=L2.CX0) (ps:=["text"]) (sp:=Q.spTheForm) (by decide +kernel) rfl rfl ⟨rfl,by decide,by decide⟩ (fun w h Y=>PySem.W.kIn_of Y) ?F Q.asks (fun _ _ _ _ z=>z)
 case F=>
  intro w mg fa h Y KX G hmg
  obtain ⟨f_undone,g_undone,d_undone⟩:Q.DD mg "undone" Q.s_undone ["gates"] KX:=by
   refine' ⟨_,_,Q.def_mk KX G ?za ?zl ?zc ?zk (Q.b1 fun _=>rfl)⟩
   (case za=>k_is); (case zl=>k_is); (case zc=>k_is); (case zk=>k_is)
  obtain ⟨f_circuit_read,g_circuit_read,d_circuit_read⟩:Q.DD mg "circuit_read" Q.s_circuit_read ["text","qubits"] KX:=by
   refine' ⟨_,_,Q.def_mk KX G ?za ?zl ?zc ?zk (Q.b2 fun _ _=>rfl)⟩
   (case za=>k_is); (case zl=>k_is); (case zc=>k_is); (case zk=>k_is)
  obtain ⟨f_block_begun,g_block_begun,d_block_begun⟩:Q.DD mg "block_begun" Q.s_block_begun ["reader","blocks"] KX:=by
   refine' ⟨_,_,Q.def_mk KX G ?za ?zl ?zc ?zk (Q.b2 fun _ _=>rfl)⟩
   (case za=>k_is); (case zl=>k_is); (case zc=>k_is); (case zk=>k_is)
  obtain ⟨f_close_blocks,g_close_blocks,d_close_blocks⟩:Q.DD mg "close_blocks" Q.s_close_blocks ["reader","blocks"] KX:=by
   refine' ⟨_,_,Q.def_mk KX G ?za ?zl ?zc ?zk (Q.b2 fun _ _=>rfl)⟩
   (case za=>k_is); (case zl=>k_is); (case zc=>k_is); (case zk=>k_is)
  obtain ⟨f_followed,g_followed,d_followed⟩:Q.DD mg "followed" Q.s_followed ["first","second"] KX:=by
   refine' ⟨_,_,Q.def_mk KX G ?za ?zl ?zc ?zk (Q.b2 fun _ _=>rfl)⟩
   (case za=>k_is); (case zl=>k_is); (case zc=>k_is); (case zk=>k_is)
  obtain ⟨f_effect_of,g_effect_of,d_effect_of⟩:Q.DD mg "effect_of" Q.s_effect_of ["word"] KX:=by
   refine' ⟨_,_,Q.def_mk KX G ?za ?zl ?zc ?zk (Q.b1 fun _=>rfl)⟩
   (case za=>k_is); (case zl=>k_is); (case zc=>k_is); (case zk=>k_is)
  obtain ⟨f_word_of,g_word_of,d_word_of⟩:Q.DD mg "word_of" Q.s_word_of ["gates"] KX:=by
   refine' ⟨_,_,Q.def_mk KX G ?za ?zl ?zc ?zk (Q.b1 fun _=>rfl)⟩
   (case za=>k_is); (case zl=>k_is); (case zc=>k_is); (case zk=>k_is)
  obtain ⟨f_with_t_ahead,g_with_t_ahead,d_with_t_ahead⟩:Q.DD mg "with_t_ahead" Q.s_with_t_ahead ["g","start","pieces"] KX:=by
   refine' ⟨_,_,Q.def_mk KX G ?za ?zl ?zc ?zk (Q.b3 fun _ _ _=>rfl)⟩
   (case za=>k_is); (case zl=>k_is); (case zc=>k_is); (case zk=>k_is)
  obtain ⟨f_form,g_form,d_form⟩:Q.DD mg "form" Q.s_form ["text"] KX:=by
   refine' ⟨_,_,Q.def_mk KX G ?za ?zl ?zc ?zk (Q.b1 fun _=>rfl)⟩
   (case za=>k_is); (case zl=>k_is); (case zc=>k_is); (case zk=>k_is)
  obtain ⟨C_Block,f_Block_init,g_Block_init,d_Block⟩:Q.DI mg "Block" "Block.__init__" Q.s_Block_init ["self","backwards"] KX:=by
   refine' ⟨_,_,_,Q.init_mk KX G ?zhC ?zha ?zi ?zl ?zc ?zk ?zpg ?zhd ?zpo ?zsa ?zmk ?zkc (Q.b2 fun _ _=>rfl)⟩
   (case zhC=>k_is); (case zha=>k_is); (case zi=>k_is); (case zl=>k_is); (case zc=>k_is); (case zk=>k_is)
   (case zpg=>k_is); (case zhd=>k_is); (case zpo=>k_is); (case zsa=>k_is); (case zmk=>k_is); (case zkc=>k_is)
  obtain ⟨f_Block_take,g_Block_take,d_Block_take⟩:Q.DM C_Block "take" "Block.take" Q.s_Block_take ["self","total","gates"] KX:=by
   refine' ⟨_,_,Q.meth_at KX G d_Block.m ?zaC ?zha ?zi ?zl ?zc ?zk (Q.b3 fun _ _ _=>rfl)⟩
   (case zaC=>k_is); (case zha=>k_is); (case zi=>k_is); (case zl=>k_is); (case zc=>k_is); (case zk=>k_is)
  obtain ⟨f_Block_hand_over,g_Block_hand_over,d_Block_hand_over⟩:Q.DM C_Block "hand_over" "Block.hand_over" Q.s_Block_hand_over ["self","times","outer"] KX:=by
   refine' ⟨_,_,Q.meth_at KX G d_Block.m ?zaC ?zha ?zi ?zl ?zc ?zk (Q.b3 fun _ _ _=>rfl)⟩
   (case zaC=>k_is); (case zha=>k_is); (case zi=>k_is); (case zl=>k_is); (case zc=>k_is); (case zk=>k_is)
  have n_Block_backwards:Q.DN C_Block "backwards" KX:=by
   refine' Q.noattr_at KX G d_Block.m ?zaC ?zha
   (case zaC=>k_is); (case zha=>k_is)
  have n_Block_total:Q.DN C_Block "total" KX:=by
   refine' Q.noattr_at KX G d_Block.m ?zaC ?zha
   (case zaC=>k_is); (case zha=>k_is)
  have n_Block_gates:Q.DN C_Block "gates" KX:=by
   refine' Q.noattr_at KX G d_Block.m ?zaC ?zha
   (case zaC=>k_is); (case zha=>k_is)
  obtain ⟨C_Reader,f_Reader_init,g_Reader_init,d_Reader⟩:Q.DI mg "Reader" "Reader.__init__" Q.s_Reader_init ["self","text","qubits"] KX:=by
   refine' ⟨_,_,_,Q.init_mk KX G ?zhC ?zha ?zi ?zl ?zc ?zk ?zpg ?zhd ?zpo ?zsa ?zmk ?zkc (Q.b3 fun _ _ _=>rfl)⟩
   (case zhC=>k_is); (case zha=>k_is); (case zi=>k_is); (case zl=>k_is); (case zc=>k_is); (case zk=>k_is)
   (case zpg=>k_is); (case zhd=>k_is); (case zpo=>k_is); (case zsa=>k_is); (case zmk=>k_is); (case zkc=>k_is)
  obtain ⟨f_Reader_byte_here,g_Reader_byte_here,d_Reader_byte_here⟩:Q.DM C_Reader "byte_here" "Reader.byte_here" Q.s_Reader_byte_here ["self"] KX:=by
   refine' ⟨_,_,Q.meth_at KX G d_Reader.m ?zaC ?zha ?zi ?zl ?zc ?zk (Q.b1 fun _=>rfl)⟩
   (case zaC=>k_is); (case zha=>k_is); (case zi=>k_is); (case zl=>k_is); (case zc=>k_is); (case zk=>k_is)
  obtain ⟨f_Reader_peek,g_Reader_peek,d_Reader_peek⟩:Q.DM C_Reader "peek" "Reader.peek" Q.s_Reader_peek ["self"] KX:=by
   refine' ⟨_,_,Q.meth_at KX G d_Reader.m ?zaC ?zha ?zi ?zl ?zc ?zk (Q.b1 fun _=>rfl)⟩
   (case zaC=>k_is); (case zha=>k_is); (case zi=>k_is); (case zl=>k_is); (case zc=>k_is); (case zk=>k_is)
  obtain ⟨f_Reader_accept,g_Reader_accept,d_Reader_accept⟩:Q.DM C_Reader "accept" "Reader.accept" Q.s_Reader_accept ["self","byte"] KX:=by
   refine' ⟨_,_,Q.meth_at KX G d_Reader.m ?zaC ?zha ?zi ?zl ?zc ?zk (Q.b2 fun _ _=>rfl)⟩
   (case zaC=>k_is); (case zha=>k_is); (case zi=>k_is); (case zl=>k_is); (case zc=>k_is); (case zk=>k_is)
  obtain ⟨f_Reader_digit_here,g_Reader_digit_here,d_Reader_digit_here⟩:Q.DM C_Reader "digit_here" "Reader.digit_here" Q.s_Reader_digit_here ["self"] KX:=by
   refine' ⟨_,_,Q.meth_at KX G d_Reader.m ?zaC ?zha ?zi ?zl ?zc ?zk (Q.b1 fun _=>rfl)⟩
   (case zaC=>k_is); (case zha=>k_is); (case zi=>k_is); (case zl=>k_is); (case zc=>k_is); (case zk=>k_is)
  obtain ⟨f_Reader_number,g_Reader_number,d_Reader_number⟩:Q.DM C_Reader "number" "Reader.number" Q.s_Reader_number ["self","most","used"] KX:=by
   refine' ⟨_,_,Q.meth_at KX G d_Reader.m ?zaC ?zha ?zi ?zl ?zc ?zk (Q.b3 fun _ _ _=>rfl)⟩
   (case zaC=>k_is); (case zha=>k_is); (case zi=>k_is); (case zl=>k_is); (case zc=>k_is); (case zk=>k_is)
  obtain ⟨f_Reader_gate,g_Reader_gate,d_Reader_gate⟩:Q.DM C_Reader "gate" "Reader.gate" Q.s_Reader_gate ["self"] KX:=by
   refine' ⟨_,_,Q.meth_at KX G d_Reader.m ?zaC ?zha ?zi ?zl ?zc ?zk (Q.b1 fun _=>rfl)⟩
   (case zaC=>k_is); (case zha=>k_is); (case zi=>k_is); (case zl=>k_is); (case zc=>k_is); (case zk=>k_is)
  have n_Reader_text:Q.DN C_Reader "text" KX:=by
   refine' Q.noattr_at KX G d_Reader.m ?zaC ?zha
   (case zaC=>k_is); (case zha=>k_is)
  have n_Reader_qubits:Q.DN C_Reader "qubits" KX:=by
   refine' Q.noattr_at KX G d_Reader.m ?zaC ?zha
   (case zaC=>k_is); (case zha=>k_is)
  have n_Reader_at:Q.DN C_Reader "at" KX:=by
   refine' Q.noattr_at KX G d_Reader.m ?zaC ?zha
   (case zaC=>k_is); (case zha=>k_is)
  have i_H_GATE:Q.IntAt mg "H_GATE" 3:=by
   refine' Q.int_mk KX G ?za
   (case za=>k_is)
  have i_S_GATE:Q.IntAt mg "S_GATE" 4:=by
   refine' Q.int_mk KX G ?za
   (case za=>k_is)
  have i_S_BACK_GATE:Q.IntAt mg "S_BACK_GATE" 5:=by
   refine' Q.int_mk KX G ?za
   (case za=>k_is)
  have i_T_BACK_GATE:Q.IntAt mg "T_BACK_GATE" 7:=by
   refine' Q.int_mk KX G ?za
   (case za=>k_is)
  have i_MOST_BYTES:Q.IntAt mg "MOST_BYTES" 4096:=by
   refine' Q.int_mk KX G ?za
   (case za=>k_is)
  have i_MOST_GATES:Q.IntAt mg "MOST_GATES" 2000:=by
   refine' Q.int_mk KX G ?za
   (case za=>k_is)
  have i_MOST_TIMES:Q.IntAt mg "MOST_TIMES" 1000:=by
   refine' Q.int_mk KX G ?za
   (case za=>k_is)
  have i_MOST_BRACKETS:Q.IntAt mg "MOST_BRACKETS" 16:=by
   refine' Q.int_mk KX G ?za
   (case za=>k_is)
  have i_END:Q.IntAt mg "END" (-1):=by
   refine' Q.int_mk KX G ?za
   (case za=>k_is)
  have i_SPACE:Q.IntAt mg "SPACE" 32:=by
   refine' Q.int_mk KX G ?za
   (case za=>k_is)
  have i_LINE_END:Q.IntAt mg "LINE_END" 10:=by
   refine' Q.int_mk KX G ?za
   (case za=>k_is)
  have i_QUOTE:Q.IntAt mg "QUOTE" 39:=by
   refine' Q.int_mk KX G ?za
   (case za=>k_is)
  have i_LEFT:Q.IntAt mg "LEFT" 40:=by
   refine' Q.int_mk KX G ?za
   (case za=>k_is)
  have i_RIGHT:Q.IntAt mg "RIGHT" 41:=by
   refine' Q.int_mk KX G ?za
   (case za=>k_is)
  have i_COMMA:Q.IntAt mg "COMMA" 44:=by
   refine' Q.int_mk KX G ?za
   (case za=>k_is)
  have i_DIGIT_0:Q.IntAt mg "DIGIT_0" 48:=by
   refine' Q.int_mk KX G ?za
   (case za=>k_is)
  have i_DIGIT_9:Q.IntAt mg "DIGIT_9" 57:=by
   refine' Q.int_mk KX G ?za
   (case za=>k_is)
  have i_SEMICOLON:Q.IntAt mg "SEMICOLON" 59:=by
   refine' Q.int_mk KX G ?za
   (case za=>k_is)
  have i_QUESTION:Q.IntAt mg "QUESTION" 63:=by
   refine' Q.int_mk KX G ?za
   (case za=>k_is)
  have i_CARET:Q.IntAt mg "CARET" 94:=by
   refine' Q.int_mk KX G ?za
   (case za=>k_is)
  have i_TILDE:Q.IntAt mg "TILDE" 126:=by
   refine' Q.int_mk KX G ?za
   (case za=>k_is)
  have i_TOO_LARGE:Q.IntAt mg "TOO_LARGE" (-2):=by
   refine' Q.int_mk KX G ?za
   (case za=>k_is)
  have i_TOO_MANY:Q.IntAt mg "TOO_MANY" (-5):=by
   refine' Q.int_mk KX G ?za
   (case za=>k_is)
  have i_FAULTY:Q.IntAt mg "FAULTY" (-6):=by
   refine' Q.int_mk KX G ?za
   (case za=>k_is)
  have i_Z_AXIS:Q.IntAt mg "Z_AXIS" 3:=by
   refine' Q.int_mk KX G ?za
   (case za=>k_is)
  have i_MOST_GATES_OF_A_FORM:Q.IntAt mg "MOST_GATES_OF_A_FORM" 500:=by
   refine' Q.int_mk KX G ?za
   (case za=>k_is)
  obtain ⟨a_UNDOING,t_UNDOING⟩:Q.DT mg "UNDOING" [0,1,2,3,5,4,7,6] KX:=by
   refine' ⟨_,Q.tup_mk KX G ?za ?zl ?zz ?zv⟩
   (case za=>k_is); (case zl=>k_is); (case zz=>decide); (case zv=>exact (.cons ⟨_,rfl⟩ (.cons ⟨_,rfl⟩ (.cons ⟨_,rfl⟩ (.cons ⟨_,rfl⟩ (.cons ⟨_,rfl⟩ (.cons ⟨_,rfl⟩ (.cons ⟨_,rfl⟩ (.cons ⟨_,rfl⟩ .nil)))))))))
  obtain ⟨a_STAYING,t_STAYING⟩:Q.DT mg "STAYING" [1,2,3] KX:=by
   refine' ⟨_,Q.tup_mk KX G ?za ?zl ?zz ?zv⟩
   (case za=>k_is); (case zl=>k_is); (case zz=>decide); (case zv=>exact (.cons ⟨_,rfl⟩ (.cons ⟨_,rfl⟩ (.cons ⟨_,rfl⟩ .nil))))
  have b_len:mg "len" = none:=by
   refine' Q.none_mk KX G ?za
   (case za=>k_is)
  have b_range:mg "range" = none:=by
   refine' Q.none_mk KX G ?za
   (case za=>k_is)
  have b_list:mg "list" = none:=by
   refine' Q.none_mk KX G ?za
   (case za=>k_is)
  have b_max:mg "max" = none:=by
   refine' Q.none_mk KX G ?za
   (case za=>k_is)
  have b_min:mg "min" = none:=by
   refine' Q.none_mk KX G ?za
   (case za=>k_is)
  have b_enumerate:mg "enumerate" = none:=by
   refine' Q.none_mk KX G ?za
   (case za=>k_is)
  have b_zip:mg "zip" = none:=by
   refine' Q.none_mk KX G ?za
   (case za=>k_is)
  have b_reversed:mg "reversed" = none:=by
   refine' Q.none_mk KX G ?za
   (case za=>k_is)
  have b_all:mg "all" = none:=by
   refine' Q.none_mk KX G ?za
   (case za=>k_is)
  have b_sum:mg "sum" = none:=by
   refine' Q.none_mk KX G ?za
   (case za=>k_is)
  have b_sorted:mg "sorted" = none:=by
   refine' Q.none_mk KX G ?za
   (case za=>k_is)
  have b_Exception:mg "Exception" = none:=by
   refine' Q.none_mk KX G ?za
   (case za=>k_is)
  have b_ord:mg "ord" = none:=by
   refine' Q.none_mk KX G ?za
   (case za=>k_is)
  have b_abs:mg "abs" = none:=by
   refine' Q.none_mk KX G ?za
   (case za=>k_is)
  have b_tuple:mg "tuple" = none:=by
   refine' Q.none_mk KX G ?za
   (case za=>k_is)
  obtain ⟨a_LETTERS,t_LETTERS⟩:Q.DK mg "LETTERS" [(120,.int 0),(121,.int 1),(122,.int 2),(104,.int 3),(115,.int 4),(116,.int 6)] KX:=by
   refine' ⟨_,Q.dic_mk KX G ?za ?zl ?zn ?zp ?zd⟩
   (case za=>k_is); (case zl=>k_is); (case zn=>decide); (case zp=>exact (.cons (Q.ent_int rfl) (.cons (Q.ent_int rfl) (.cons (Q.ent_int rfl) (.cons (Q.ent_int rfl) (.cons (Q.ent_int rfl) (.cons (Q.ent_int rfl) .nil))))))); (case zd=>show ([.inl 120,.inl 121,.inl 122,.inl 104,.inl 115,.inl 116]:List L2.Key).Nodup; decide)
  obtain ⟨C_Fault,fi,gF,Z⟩:Q.DF mg KX:=by
   refine' ⟨_,_,_,Q.fault_mk KX G ?zaC ?zkp ?zl ?zno ?zni ?zcl ?zmr ?zhd ?zfn ?zlf ?zc ?zk ?zsa ?zga ?zgx ?zpl ?zei (Q.b2 fun _ _=>rfl)⟩
   (case zaC=>k_is); (case zkp=>k_is); (case zl=>k_is); (case zno=>kernel_rfl); (case zni=>k_is); (case zcl=>k_is); (case zmr=>rfl); (case zhd=>rfl); (case zfn=>k_is); (case zlf=>k_is); (case zc=>k_is); (case zk=>k_is)
   (case zsa=>k_is); (case zga=>k_is); (case zgx=>k_is); (case zpl=>k_is); (case zei=>k_is)
  have w_eff:Q.DW mg "EFFECTS" Q.effT KX:=by
   refine' Q.tdic_mk KX G ?za ?zl ?zn (.cons (Q.ent_tup rfl ?zl0 ?zs0 ?zv0) (.cons (Q.ent_tup rfl ?zl1 ?zs1 ?zv1) (.cons (Q.ent_tup rfl ?zl2 ?zs2 ?zv2) (.cons (Q.ent_tup rfl ?zl3 ?zs3 ?zv3) (.cons (Q.ent_tup rfl ?zl4 ?zs4 ?zv4) (.cons (Q.ent_tup rfl ?zl5 ?zs5 ?zv5) .nil)))))) ?zd
   (case za=>k_is); (case zl=>k_is); (case zn=>decide)
   (case zl0=>k_is); (case zs0=>decide); (case zv0=>exact (.cons ⟨_,rfl⟩ (.cons ⟨_,rfl⟩ (.cons ⟨_,rfl⟩ .nil))))
   (case zl1=>k_is); (case zs1=>decide); (case zv1=>exact (.cons ⟨_,rfl⟩ (.cons ⟨_,rfl⟩ (.cons ⟨_,rfl⟩ .nil))))
   (case zl2=>k_is); (case zs2=>decide); (case zv2=>exact (.cons ⟨_,rfl⟩ (.cons ⟨_,rfl⟩ (.cons ⟨_,rfl⟩ .nil))))
   (case zl3=>k_is); (case zs3=>decide); (case zv3=>exact (.cons ⟨_,rfl⟩ (.cons ⟨_,rfl⟩ (.cons ⟨_,rfl⟩ .nil))))
   (case zl4=>k_is); (case zs4=>decide); (case zv4=>exact (.cons ⟨_,rfl⟩ (.cons ⟨_,rfl⟩ (.cons ⟨_,rfl⟩ .nil))))
   (case zl5=>k_is); (case zs5=>decide); (case zv5=>exact (.cons ⟨_,rfl⟩ (.cons ⟨_,rfl⟩ (.cons ⟨_,rfl⟩ .nil))))
   (case zd=>show ([.inl 0,.inl 1,.inl 2,.inl 3,.inl 4,.inl 5]:List L2.Key).Nodup; decide)
  have w_beh:Q.DW mg "BEHIND_T" Q.behT KX:=by
   refine' Q.tdic_mk KX G ?za ?zl ?zn (.cons (Q.ent_tup rfl ?zl0 ?zs0 ?zv0) (.cons (Q.ent_tup rfl ?zl1 ?zs1 ?zv1) (.cons (Q.ent_tup rfl ?zl2 ?zs2 ?zv2) .nil))) ?zd
   (case za=>k_is); (case zl=>k_is); (case zn=>decide)
   (case zl0=>k_is); (case zs0=>decide); (case zv0=>exact (.cons ⟨_,rfl⟩ (.cons ⟨_,rfl⟩ (.cons ⟨_,rfl⟩ .nil))))
   (case zl1=>k_is); (case zs1=>decide); (case zv1=>exact (.cons ⟨_,rfl⟩ (.cons ⟨_,rfl⟩ (.cons ⟨_,rfl⟩ .nil))))
   (case zl2=>k_is); (case zs2=>decide); (case zv2=>exact (.cons ⟨_,rfl⟩ (.cons ⟨_,rfl⟩ (.cons ⟨_,rfl⟩ .nil))))
   (case zd=>show ([.inl 1,.inl 2,.inl 3]:List L2.Key).Nodup; decide)
  have w_und:Q.DW mg "UNDOING_THAT" Q.undT KX:=by
   refine' Q.tdic_mk KX G ?za ?zl ?zn (.cons (Q.ent_tup rfl ?zl0 ?zs0 ?zv0) (.cons (Q.ent_tup rfl ?zl1 ?zs1 ?zv1) (.cons (Q.ent_tup rfl ?zl2 ?zs2 ?zv2) .nil))) ?zd
   (case za=>k_is); (case zl=>k_is); (case zn=>decide)
   (case zl0=>k_is); (case zs0=>decide); (case zv0=>exact (.cons ⟨_,rfl⟩ (.cons ⟨_,rfl⟩ (.cons ⟨_,rfl⟩ .nil))))
   (case zl1=>k_is); (case zs1=>decide); (case zv1=>exact (.cons ⟨_,rfl⟩ (.cons ⟨_,rfl⟩ (.cons ⟨_,rfl⟩ .nil))))
   (case zl2=>k_is); (case zs2=>decide); (case zv2=>exact (.cons ⟨_,rfl⟩ (.cons ⟨_,rfl⟩ (.cons ⟨_,rfl⟩ .nil))))
   (case zd=>show ([.inl 1,.inl 2,.inl 3]:List L2.Key).Nodup; decide)
  obtain ⟨a_pcs,w_pcs⟩:Q.DK mg "PIECES" Q.pcsT KX:=by
   refine' ⟨_,Q.dic_mk KX G ?za ?zl ?zn ?zp ?zd⟩
   (case za=>k_is); (case zl=>k_is); (case zn=>decide); (case zp=>exact (.cons (Q.ent_str rfl) (.cons (Q.ent_str rfl) (.cons (Q.ent_str rfl) .nil)))); (case zd=>show ([.inl 1,.inl 2,.inl 3]:List L2.Key).Nodup; decide)
  obtain ⟨a_wrd,w_wrd,w_wrds⟩:Q.DS mg "WORDS" Q.wordS KX:=by
   refine' ⟨_,Q.tups_mk KX G ?za ?zl ?zz ?zv⟩
   (case za=>k_is); (case zl=>k_is); (case zz=>decide); (case zv=>exact (.cons ⟨_,rfl⟩ (.cons ⟨_,rfl⟩ (.cons ⟨_,rfl⟩ (.cons ⟨_,rfl⟩ (.cons ⟨_,rfl⟩ (.cons ⟨_,rfl⟩ (.cons ⟨_,rfl⟩ (.cons ⟨_,rfl⟩ (.cons ⟨_,rfl⟩ (.cons ⟨_,rfl⟩ (.cons ⟨_,rfl⟩ (.cons ⟨_,rfl⟩ (.cons ⟨_,rfl⟩ (.cons ⟨_,rfl⟩ (.cons ⟨_,rfl⟩ (.cons ⟨_,rfl⟩ (.cons ⟨_,rfl⟩ (.cons ⟨_,rfl⟩ (.cons ⟨_,rfl⟩ (.cons ⟨_,rfl⟩ (.cons ⟨_,rfl⟩ (.cons ⟨_,rfl⟩ (.cons ⟨_,rfl⟩ (.cons ⟨_,rfl⟩ .nil)))))))))))))))))))))))))
  let W:Q.Wx (PySem.Challenge.cw_exactqubits_s13_form_holds.heap_1 w.params) mg:=⟨w_eff,w_beh,w_und,a_pcs,w_pcs,a_wrd,w_wrd,w_wrds⟩
  have Mf:PySem.W.exmOne (PySem.Challenge.cw_exactqubits_s13_form_holds.heap_1 w.params) (.ref C_Fault) (.ref C_Fault)=some true:=by
   refine' Q.ex1_mk KX G Z.m ?za ?zt
   (case za=>k_is); (case zt=>kernel_rfl)
  obtain ⟨T,ef,eg,⟨U⟩⟩:Q.DTx mg f_form g_form KX:=⟨⟨f_undone,g_undone,d_undone,f_circuit_read,g_circuit_read,d_circuit_read,f_block_begun,g_block_begun,d_block_begun,f_close_blocks,g_close_blocks,d_close_blocks,f_followed,g_followed,d_followed,f_effect_of,g_effect_of,d_effect_of,f_word_of,g_word_of,d_word_of,f_with_t_ahead,g_with_t_ahead,d_with_t_ahead,f_form,g_form,d_form,C_Fault,C_Block,f_Block_init,g_Block_init,d_Block,f_Block_take,g_Block_take,d_Block_take,f_Block_hand_over,g_Block_hand_over,d_Block_hand_over,n_Block_backwards,n_Block_total,n_Block_gates,C_Reader,f_Reader_init,g_Reader_init,d_Reader,f_Reader_byte_here,g_Reader_byte_here,d_Reader_byte_here,f_Reader_peek,g_Reader_peek,d_Reader_peek,f_Reader_accept,g_Reader_accept,d_Reader_accept,f_Reader_digit_here,g_Reader_digit_here,d_Reader_digit_here,f_Reader_number,g_Reader_number,d_Reader_number,f_Reader_gate,g_Reader_gate,d_Reader_gate,n_Reader_text,n_Reader_qubits,n_Reader_at,i_H_GATE,i_S_GATE,i_S_BACK_GATE,i_T_BACK_GATE,i_MOST_BYTES,i_MOST_GATES,i_MOST_TIMES,i_MOST_BRACKETS,i_END,i_SPACE,i_LINE_END,i_QUOTE,i_LEFT,i_RIGHT,i_COMMA,i_DIGIT_0,i_DIGIT_9,i_SEMICOLON,i_QUESTION,i_CARET,i_TILDE,i_TOO_LARGE,i_TOO_MANY,i_FAULTY,i_Z_AXIS,i_MOST_GATES_OF_A_FORM,a_UNDOING,t_UNDOING,a_STAYING,t_STAYING,b_len,b_range,b_list,b_max,b_min,b_enumerate,b_zip,b_reversed,b_all,b_sum,b_sorted,b_Exception,b_ord,b_abs,b_tuple⟩,rfl,rfl,⟨⟨a_LETTERS,t_LETTERS⟩⟩⟩
  subst ef eg
  have e:fa=T.f_form:=Value.ref.inj (Option.some.inj (hmg.symm.trans T.d_form.m))
  subst e
  exact ⟨_,Q.bt_of T.d_form,fun base _ _=>Q.ok_theForm T U W Z b_Exception Mf⟩
