import PyProof.Rows.All
import Wide.All
import OpenK.AllK
import Wide.FinOn
import PyProof.EqAt
import PyProof.EqKinds
import PyProof.TupleCall
import KE.BitLaws
import KE.KSortRegAny
import Open.SpecLaws
import KE.OsHead
import KE.OsGo
import KE.RegKTryMore
import PyProof.ExcBaseAll.ValueError
import PySem.Challenge.RW_columnpages_s01_answers
set_option Elab.async false
set_option linter.all false
set_option maxRecDepth 100000
set_option maxHeartbeats 4000000
open PySem.W (Frag)
open List (length_map mem_cons mem_map length_cons length_append map_cons getElem?_eq_getElem map_append length_drop mem_cons_of_mem size_toArray all_eq_true all_cons getElem?_append_right getElem?_map length_take append_assoc getElem?_append_left all_append not_mem_nil mem_append getD_eq_getElem?_getD)
open SgSpec (markNum State glueAll ending Answer)
open PySem.W (fnOf exmOne findIn keepIn emptyDict instObj nsIn hideAll codeIn plainGet isFn mg_of hideAll_get lookIn)
namespace Cp
open SbThing SbPack
def fits:Nat->Thing->Bool
 | n+1,.leaders _ _ t=>fits n t
 | n+1,.box _ _ _ _ _ _ l=>l.all (fits n)
 | n+1,.disc a b c=>a.all (fits n)&&(b.all (fits n)&&c.all (fits n))
 | n+1,.adjust l=>l.all (fits n)
 | n+1,.insert _ _ _ _ l=>l.all (fits n)
 | 0,.leaders _ _ _=>false
 | 0,.box _ _ _ _ _ _ _=>false
 | 0,.disc _ _ _=>false
 | 0,.adjust _=>false
 | 0,.insert _ _ _ _ _=>false
 | _,.glyph _ _ _ _=>true
 | _,.kern _=>true
 | _,.glue _=>true
 | _,.penalty _=>true
 | _,.rule _ _ _=>true
 | _,.mark _=>true
 | _,.anchor _=>true
theorem t9{f g:Thing->Bool}{l:List Thing}(h:∀ t,f t=true->g t=true)(x:l.all f=true):l.all g=true:=by
 rw [all_eq_true] at x ⊢
 exact fun t ht=>h t (x t ht)
theorem kS{f g:Thing->List Int}{p:Thing->Bool}:∀ {l:List Thing},l.all p=true->(∀ t,p t=true->f t=g t)->l.flatMap f=l.flatMap g
 | [],_,_=>rfl
 | t::r,h,k=>by
  rw [all_cons,Bool.and_eq_true] at h
  rw [List.flatMap_cons,List.flatMap_cons,k t h.1,kS h.2 k]
theorem gE{f g:Thing->List Int}{p:Thing->Bool}{l:List Thing}(h:l.all p=true)(k:∀ t,p t=true->f t=g t):listNums f l=listNums g l:=by
 unfold listNums
 rw [kS h k]
theorem gJ:∀ (n:Nat) (t:Thing),fits n t=true->fits (n+1) t=true/\nums (n+1) t=nums n t
 | 0,t,h=>by cases t<;>first|exact ⟨rfl,rfl⟩|(simp [fits] at h)
 | n+1,t,h=>by
  have ih:=gJ n
  have a:∀ l:List Thing,l.all (fits n)=true->l.all (fits (n+1))=true:=fun l x=>t9 (fun t ht=>(ih t ht).1) x
  have b:∀ l:List Thing,l.all (fits n)=true->listNums (nums (n+1)) l=listNums (nums n) l:=fun l x=>gE x fun t ht=>(ih t ht).2
  cases t with
  | leaders g how t =>
   have h:fits n t=true:=h
   exact ⟨(ih t h).1,by show _::(_++(_::nums (n+1) t))=_;rw [(ih t h).2];rfl⟩
  | box c w hh d s sh l =>
   have h:l.all (fits n)=true:=h
   exact ⟨a l h,by show _++listNums (nums (n+1)) l=_;rw [b l h];rfl⟩
  | disc x y z =>
   have h:(x.all (fits n)&&(y.all (fits n)&&z.all (fits n)))=true:=h
   rw [Bool.and_eq_true,Bool.and_eq_true] at h
   refine ⟨?_,?_⟩
   ·show (x.all (fits (n+1))&&(y.all (fits (n+1))&&z.all (fits (n+1))))=true
    rw [a x h.1,a y h.2.1,a z h.2.2];rfl
   ·show _::(listNums (nums (n+1)) x++(listNums (nums (n+1)) y++listNums (nums (n+1)) z))=_
    rw [b x h.1,b y h.2.1,b z h.2.2];rfl
  | adjust l =>
   have h:l.all (fits n)=true:=h
   exact ⟨a l h,by show _::listNums (nums (n+1)) l=_;rw [b l h];rfl⟩
  | insert c g d k l =>
   have h:l.all (fits n)=true:=h
   exact ⟨a l h,by show _++(_++(_++listNums (nums (n+1)) l))=_;rw [b l h];rfl⟩
  | _=>exact ⟨rfl,rfl⟩
theorem Ik{n:Nat}{t:Thing}(h:fits n t=true):∀ k,fits (n+k) t=true/\nums (n+k) t=nums n t
 | 0=>⟨h,rfl⟩
 | k+1=>by
  have i:=Ik h k
  have j:=gJ (n+k) t i.1
  exact ⟨j.1,j.2.trans i.2⟩
theorem Ic{n m:Nat}{t:Thing}(h:fits n t=true)(le:n<=m):fits m t=true/\nums m t=nums n t:=by
 have:=Ik h (m - n)
 rwa [Nat.add_sub_cancel' le] at this
theorem fT:∀ (n:Nat) (t:Thing),right n t=true->fits n t=true
 | 0,t,h=>by cases t<;>first|rfl|(simp [right] at h)
 | n+1,t,h=>by
  have ih:=fT n
  have a:∀ l:List Thing,l.all (right n)=true->l.all (fits n)=true:=fun l x=>t9 ih x
  cases t with
  | leaders g how t =>
   simp only [right,Bool.and_eq_true] at h
   exact ih t h.2.2.2.2
  | box c w hh d s sh l =>
   simp only [right,Bool.and_eq_true] at h
   exact a l h.2.2.2.2.2
  | disc x y z =>
   simp only [right,Bool.and_eq_true] at h
   show (x.all (fits n)&&(y.all (fits n)&&z.all (fits n)))=true
   rw [a x h.1,a y h.2.1,a z h.2.2];rfl
  | adjust l=>exact a l h
  | insert c g d k l =>
   simp only [right,Bool.and_eq_true] at h
   exact a l h.2.2.2.2
  | _=>rfl
theorem sO(g:Glue)(r:List Int):glueIn (glueNums g++r)=some (g,r):=by
 obtain ⟨a,b,c,d,e⟩:=g
 simp [glueNums,glueIn]
theorem J7(o:Option Int)(r:List Int):optIn (optNums o++r)=some (o,r):=by
 cases o<;>rfl
theorem KR(b:Bool):boolIn (flag b)=some b:=by cases b<;>rfl
theorem Fo{f:List Int->Option (Thing×List Int)}{g:Thing->List Int}:∀ (l:List Thing) (r:List Int),(∀ t∈l,∀ r,f (g t++r)=some (t,r))->many f l.length (l.flatMap g++r)=some (l,r)
 | [],_,_=>rfl
 | t::l,r,h=>by
  rw [List.flatMap_cons,append_assoc,length_cons]
  show (match f (g t++(l.flatMap g++r)) with|none=>none|some x=>(many f l.length x.2).map fun (y:List Thing×List Int)=>(x.1::y.1,y.2))=_
  rw [h t (by simp) _]
  show (many f l.length (l.flatMap g++r)).map _=_
  rw [Fo l r fun t ht=>h t (by simp [ht])]
  rfl
theorem i0{f:List Int->Option (Thing×List Int)}{g:Thing->List Int}(l:List Thing)(r:List Int)(h:∀ t∈l,∀ r,f (g t++r)=some (t,r)):listIn f (listNums g l++r)=some (l,r):=by
 unfold listNums
 rw [List.cons_append]
 show (if 0<=(l.length:Int) then many f (l.length:Int).toNat (l.flatMap g++r) else none)=_
 rw [if_pos (Int.natCast_nonneg _),Int.toNat_natCast]
 exact Fo l r h
def oG:Nat->List Int->Option (Thing×List Int)
 | 0=>fun _=>none
 | n+1=>thingIn n
theorem cE(n:Nat)(k:Int)(r:List Int):thingIn n (k::r)=kindIn (oG n) k r:=by cases n<;>rfl
theorem t8(n:Nat):thingIn n []=none:=by cases n<;>rfl
theorem dC:∀ (n:Nat) (t:Thing) (m:Nat) (r:List Int),fits n t=true->n<=m->thingIn m (nums n t++r)=some (t,r)
 | n,.glyph k w h d,m,r,_,_=>by
  have e:nums n (.glyph k w h d)=[0,(k:Int),w,h,d]:=by cases n<;>rfl
  rw [e];simp [cE,kindIn]
 | n,.kern k,m,r,_,_=>by
  have e:nums n (.kern k)=[1,k]:=by cases n<;>rfl
  rw [e];simp [cE,kindIn]
 | n,.glue g,m,r,_,_=>by
  have e:nums n (.glue g)=2::glueNums g:=by cases n<;>rfl
  rw [e];simp [cE,kindIn,sO]
 | n,.penalty k,m,r,_,_=>by
  have e:nums n (.penalty k)=[4,k]:=by cases n<;>rfl
  rw [e];simp [cE,kindIn]
 | n,.rule w h d,m,r,_,_=>by
  have e:nums n (.rule w h d)=5::(optNums w++(optNums h++optNums d)):=by cases n<;>rfl
  rw [e];simp [cE,kindIn,J7]
 | n,.mark k,m,r,_,_=>by
  have e:nums n (.mark k)=[9,(k:Int)]:=by cases n<;>rfl
  rw [e];simp [cE,kindIn]
 | n,.anchor k,m,r,_,_=>by
  have e:nums n (.anchor k)=[11,(k:Int)]:=by cases n<;>rfl
  rw [e];simp [cE,kindIn]
 | n+1,.leaders g how t,m+1,r,h,le=>by
  have h:fits n t=true:=h
  have ih:=dC n t m r h (by omega)
  show thingIn (m+1) (3::(glueNums g++((how:Int)::nums n t))++r)=_
  simp [cE,kindIn,sO,oG,ih]
 | n+1,.box c w hh d s sh l,m+1,r,h,le=>by
  have h:l.all (fits n)=true:=h
  rw [all_eq_true] at h
  have ih:=i0 (f:=thingIn m) (g:=nums n) l r fun t ht r=>dC n t m r (h t ht) (by omega)
  show thingIn (m+1) ([6,flag c,w,hh,d,(s.order:Int),s.num,(s.den:Int),sh]++listNums (nums n) l++r)=_
  simp [cE,kindIn,KR,oG,ih]
 | n+1,.disc a b c,m+1,r,h,le=>by
  have h:(a.all (fits n)&&(b.all (fits n)&&c.all (fits n)))=true:=h
  simp only [Bool.and_eq_true,all_eq_true] at h
  have i1:=fun r=>i0 (f:=thingIn m) (g:=nums n) a r fun t ht r=>dC n t m r (h.1 t ht) (by omega)
  have i2:=fun r=>i0 (f:=thingIn m) (g:=nums n) b r fun t ht r=>dC n t m r (h.2.1 t ht) (by omega)
  have i3:=fun r=>i0 (f:=thingIn m) (g:=nums n) c r fun t ht r=>dC n t m r (h.2.2 t ht) (by omega)
  show thingIn (m+1) (7::(listNums (nums n) a++(listNums (nums n) b++listNums (nums n) c))++r)=_
  simp [cE,kindIn,oG,i1,i2,i3]
 | n+1,.adjust l,m+1,r,h,le=>by
  have h:l.all (fits n)=true:=h
  rw [all_eq_true] at h
  have ih:=i0 (f:=thingIn m) (g:=nums n) l r fun t ht r=>dC n t m r (h t ht) (by omega)
  show thingIn (m+1) (8::listNums (nums n) l++r)=_
  simp [cE,kindIn,oG,ih]
 | n+1,.insert c g d k l,m+1,r,h,le=>by
  have h:l.all (fits n)=true:=h
  rw [all_eq_true] at h
  have ih:=i0 (f:=thingIn m) (g:=nums n) l r fun t ht r=>dC n t m r (h t ht) (by omega)
  show thingIn (m+1) ([10,(c:Int)]++(glueNums g++([d,k]++listNums (nums n) l))++r)=_
  simp [cE,kindIn,oG,ih,sO]
 | 0,.leaders _ _ _,_,_,h,_=>by simp [fits] at h
 | 0,.box _ _ _ _ _ _ _,_,_,h,_=>by simp [fits] at h
 | 0,.disc _ _ _,_,_,h,_=>by simp [fits] at h
 | 0,.adjust _,_,_,h,_=>by simp [fits] at h
 | 0,.insert _ _ _ _ _,_,_,h,_=>by simp [fits] at h
theorem t7{r:List Int}{g:Glue}{u:List Int}(h:glueIn r=some (g,u)):r=glueNums g++u:=by
 match r,h with
 | a::b::c::d::e::r,h =>
  simp only [glueIn] at h
  split at h
  ·rename_i k
   simp only [Option.some.injEq,Prod.mk.injEq] at h
   obtain ⟨rfl,rfl⟩:=h
   simp [glueNums,Int.toNat_of_nonneg k.1,Int.toNat_of_nonneg k.2]
  ·cases h
theorem r_{r:List Int}{o:Option Int}{u:List Int}(h:optIn r=some (o,u)):r=optNums o++u:=by
 unfold optIn at h
 split at h
 ·simp only [Option.some.injEq,Prod.mk.injEq] at h;obtain ⟨rfl,rfl⟩:=h;rfl
 ·simp only [Option.some.injEq,Prod.mk.injEq] at h;obtain ⟨rfl,rfl⟩:=h;rfl
 ·cases h
theorem Dg{k:Int}{b:Bool}(h:boolIn k=some b):k=flag b:=by
 unfold boolIn at h
 split at h
 ·cases h;rename_i e;exact e
 ·split at h
  ·cases h;rename_i e;exact e
  ·cases h
theorem HB{f:List Int->Option (Thing×List Int)}{g:Thing->List Int}{p:Thing->Bool}(k:∀ r t u,f r=some (t,u)->r=g t++u/\p t=true) :
 ∀ (n:Nat) (r:List Int) (l:List Thing) (u:List Int),many f n r=some (l,u)->r=l.flatMap g++u/\l.length=n/\l.all p=true
 | 0,r,l,u,h=>by
  simp only [many,Option.some.injEq,Prod.mk.injEq] at h
  obtain ⟨rfl,rfl⟩:=h
  exact ⟨rfl,rfl,rfl⟩
 | n+1,r,l,u,h=>by
  simp only [many] at h
  split at h
  ·cases h
  ·rename_i x e
   obtain ⟨t,v⟩:=x
   simp only [Option.map_eq_some_iff] at h
   obtain ⟨⟨l',u'⟩,h1,h2⟩:=h
   simp only [Prod.mk.injEq] at h2
   obtain ⟨rfl,rfl⟩:=h2
   obtain ⟨e1,e2⟩:=k r t v e
   obtain ⟨e3,e4,e5⟩:=HB k n v l' u' h1
   refine ⟨?_,by rw [length_cons,e4],by rw [all_cons,e2,e5];rfl⟩
   rw [e1,e3,List.flatMap_cons,append_assoc]
theorem DD{f:List Int->Option (Thing×List Int)}{g:Thing->List Int}{p:Thing->Bool}(k:∀ r t u,f r=some (t,u)->r=g t++u/\p t=true){r:List Int}{l:List Thing}{u:List Int}(h:listIn f r=some (l,u)) :
 r=listNums g l++u/\l.all p=true:=by
 match r,h with
 | n::r,h =>
  simp only [listIn] at h
  split at h
  ·rename_i hn
   obtain ⟨e1,e2,e3⟩:=HB k _ _ _ _ h
   refine ⟨?_,e3⟩
   unfold listNums
   rw [e2,Int.toNat_of_nonneg hn,e1]
   rfl
  ·cases h
def bZ(lo hi:Int):List Int->Option (Int×List Int)
 | x::r=>if lo<=x/\x<=hi then some (x,r) else none
 | []=>none
abbrev c9:List Int->Option (Int×List Int):=bZ (-FAR) FAR
def oE:List Int->Option (Glue×List Int)
 | a::b::c::d::e::u=>if (isLen a=true/\isLen b=true/\isLen d=true)/\(0<=c/\c<=3)/\(0<=e/\e<=3) then some (⟨a,b,c.toNat,d,e.toNat⟩,u) else none
 | _=>none
def lD(r:List Int):Option (Option Int×List Int):=(bZ 0 1 r).bind fun x=>if x.1=1 then (c9 x.2).map fun y=>(some y.1,y.2) else some (none,x.2)
def iR(k:Int)(r:List Int):Option (Thing×List Int) :=
 if k=0 then (bZ 0 NAMES r).bind fun n=>(c9 n.2).bind fun w=>(c9 w.2).bind fun h=>(c9 h.2).map fun d=>(.glyph n.1.toNat w.1 h.1 d.1,d.2)
 else if k=1 then (c9 r).map fun x=>(.kern x.1,x.2)
 else if k=2 then (oE r).map fun g=>(.glue g.1,g.2)
 else if k=4 then (c9 r).map fun x=>(.penalty x.1,x.2)
 else if k=5 then (lD r).bind fun w=>(lD w.2).bind fun h=>(lD h.2).map fun d=>(.rule w.1 h.1 d.1,d.2)
 else if k=9 then (bZ 0 CLASSES r).map fun c=>(.mark c.1.toNat,c.2)
 else (bZ 0 NAMES r).map fun c=>(.anchor c.1.toNat,c.2)
structure MC where
 c:Int
 w:Int
 h:Int
 d:Int
 o:Int
 p:Int
 q:Int
 s:Int
def NI(r:List Int):Option (MC×List Int) :=
 (bZ 0 1 r).bind fun c=>(c9 c.2).bind fun w=>(c9 w.2).bind fun h=>(c9 h.2).bind fun d=>(bZ 0 3 d.2).bind fun o=>(bZ (1 - WIDE) (WIDE - 1) o.2).bind fun p=>(bZ 1 (WIDE - 1) p.2).bind fun q=>(c9 q.2).map fun s =>
  (⟨c.1,w.1,h.1,d.1,o.1,p.1,q.1,s.1⟩,s.2)
def MC.box(b:MC)(l:List Thing):Thing:=.box (b.c==1) b.w b.h b.d ⟨b.o.toNat,b.p,b.q.toNat⟩ b.s l
def dJ(k:Int):Bool:=k==3||(k==6||(k==7||(k==8||k==10)))
def hU(f:Bool->List Int->Option (Thing×List Int))(lo:Bool)(k:Int)(r:List Int):Option (Thing×List Int) :=
 if k=3 then (if lo=true then (oE r).bind fun g=>(bZ 0 2 g.2).bind fun how=>(f false how.2).bind fun t=>if repeated t.1=true then some (.leaders g.1 how.1.toNat t.1,t.2) else none else none)
 else if k=6 then (NI r).bind fun b=>(listIn (f lo) b.2).map fun x=>(b.1.box x.1,x.2)
 else if k=7 then (listIn (f lo) r).bind fun a=>(listIn (f lo) a.2).bind fun b=>(listIn (f lo) b.2).map fun c=>(.disc a.1 b.1 c.1,c.2)
 else if k=8 then (listIn (f lo) r).map fun x=>(.adjust x.1,x.2)
 else (bZ 0 CLASSES r).bind fun c=>(oE c.2).bind fun g=>(c9 g.2).bind fun d=>(c9 d.2).bind fun k=>(listIn (f lo) k.2).map fun x=>(.insert c.1.toNat g.1 d.1 k.1 x.1,x.2)
def bO:Nat->Bool->List Int->Option (Thing×List Int)
 | 0,_,r=>(bZ 0 11 r).bind fun x=>if dJ x.1=true then none else iR x.1 x.2
 | n+1,lo,r=>(bZ 0 11 r).bind fun x=>if dJ x.1=true then hU (bO n) lo x.1 x.2 else iR x.1 x.2
theorem dO{x:Int}:isLen x=true↔-FAR<=x/\x<=FAR:=by simp [isLen]
theorem fH{lo hi:Int}{r u:List Int}{x:Int}:bZ lo hi r=some (x,u)↔r=x::u/\lo<=x/\x<=hi:=by
 cases r with
 | nil=>simp [bZ]
 | cons y r =>
  simp only [bZ]
  split
  ·rename_i h
   simp only [Option.some.injEq,Prod.mk.injEq,List.cons.injEq]
   constructor
   ·rintro ⟨rfl,rfl⟩;exact ⟨⟨rfl,rfl⟩,h⟩
   ·rintro ⟨⟨rfl,rfl⟩,_⟩;exact ⟨rfl,rfl⟩
  ·rename_i h
   simp only [List.cons.injEq,reduceCtorEq,false_iff]
   rintro ⟨⟨rfl,rfl⟩,k⟩;exact h k
theorem q_{r u:List Int}{g:Glue}:oE r=some (g,u)↔glueIn r=some (g,u)/\glueOk g=true:=by
 constructor
 ·intro h
  match r,h with
  | a::b::c::d::e::r,h =>
   simp only [oE] at h
   split at h
   ·rename_i k
    simp only [Option.some.injEq,Prod.mk.injEq] at h
    obtain ⟨rfl,rfl⟩:=h
    refine ⟨by simp only [glueIn];rw [if_pos ⟨k.2.1.1,k.2.2.1⟩],?_⟩
    simp only [glueOk,k.1.1,k.1.2.1,k.1.2.2,Bool.true_and,Bool.and_true,Bool.and_eq_true,decide_eq_true_eq]
    omega
   ·cases h
 ·rintro ⟨h,k⟩
  match r,h with
  | a::b::c::d::e::r,h =>
   simp only [glueIn] at h
   split at h
   ·rename_i z
    simp only [Option.some.injEq,Prod.mk.injEq] at h
    obtain ⟨rfl,rfl⟩:=h
    simp only [glueOk,Bool.and_eq_true,decide_eq_true_eq] at k
    simp only [oE]
    rw [if_pos ⟨⟨k.1,k.2.1,k.2.2.2.1⟩,⟨z.1,by omega⟩,⟨z.2,by omega⟩⟩]
   ·cases h
theorem O9{r u:List Int}{o:Option Int}:lD r=some (o,u)↔optIn r=some (o,u)/\optOk o=true:=by
 constructor
 ·intro h
  simp only [lD,Option.bind_eq_some_iff] at h
  obtain ⟨⟨x,v⟩,h1,h2⟩:=h
  rw [fH] at h1
  obtain ⟨rfl,ha,hb⟩:=h1
  simp only at h2
  split at h2
  ·rename_i e;subst e
   simp only [Option.map_eq_some_iff,Prod.exists] at h2
   obtain ⟨y,v',h3,h4⟩:=h2
   rw [fH] at h3
   obtain ⟨rfl,h3⟩:=h3
   simp only [Prod.mk.injEq] at h4
   obtain ⟨rfl,rfl⟩:=h4
   exact ⟨rfl,dO.mpr h3⟩
  ·rename_i e
   have e:x=0:=by omega
   subst e
   simp only [Option.some.injEq,Prod.mk.injEq] at h2
   obtain ⟨rfl,rfl⟩:=h2
   exact ⟨rfl,rfl⟩
 ·rintro ⟨h,k⟩
  have e:=r_ h
  subst e
  cases o with
  | none=>rfl
  | some x =>
   have k:isLen x=true:=k
   rw [dO] at k
   have e:c9 (x::u)=some (x,u):=fH.mpr ⟨rfl,k⟩
   simp only [lD,optNums,List.cons_append,List.nil_append]
   simp [bZ,e]
theorem nN{α β:Type}{o:Option α}{f:α->Option β}{b:β}:o.bind f=some b↔∃ a,o=some a/\f a=some b:=by
 cases o<;>simp
theorem gH{α β:Type}{o:Option α}{f:α->β}{b:β}:o.map f=some b↔∃ a,o=some a/\f a=b:=by
 cases o<;>simp
theorem Lb{f f':List Int->Option (Thing×List Int)}{p:Thing->Bool}(h:∀ r t u,f r=some (t,u)↔f' r=some (t,u)/\p t=true) :
 ∀ (n:Nat) (r:List Int) (l:List Thing) (u:List Int),many f n r=some (l,u)↔many f' n r=some (l,u)/\l.all p=true
 | 0,r,l,u=>by
  simp only [many,Option.some.injEq,Prod.mk.injEq]
  constructor
  ·rintro ⟨rfl,rfl⟩;exact ⟨⟨rfl,rfl⟩,rfl⟩
  ·exact fun h=>h.1
 | n+1,r,l,u=>by
  have ih:=Lb h n
  have e:∀ g:List Int->Option (Thing×List Int),many g (n+1) r=(g r).bind fun x=>(many g n x.2).map fun y=>(x.1::y.1,y.2):=fun g=>by
   simp only [many];cases g r<;>rfl
  rw [e,e]
  simp only [nN,gH,Prod.exists,Prod.mk.injEq]
  constructor
  ·rintro ⟨t,v,h1,l',u',h2,rfl,rfl⟩
   rw [h] at h1
   rw [ih] at h2
   exact ⟨⟨t,v,h1.1,l',u',h2.1,rfl,rfl⟩,by rw [all_cons,h1.2,h2.2];rfl⟩
  ·rintro ⟨⟨t,v,h1,l',u',h2,rfl,rfl⟩,k⟩
   rw [all_cons,Bool.and_eq_true] at k
   exact ⟨t,v,(h _ _ _).mpr ⟨h1,k.1⟩,l',u',(ih _ _ _).mpr ⟨h2,k.2⟩,rfl,rfl⟩
theorem EW{f f':List Int->Option (Thing×List Int)}{p:Thing->Bool}(h:∀ r t u,f r=some (t,u)↔f' r=some (t,u)/\p t=true)
 (r:List Int) (l:List Thing) (u:List Int):listIn f r=some (l,u)↔listIn f' r=some (l,u)/\l.all p=true:=by
 cases r with
 | nil=>simp [listIn]
 | cons n r =>
  simp only [listIn]
  split
  ·exact Lb h _ _ _ _
  ·simp
theorem k12{k:Int}(h1:0<=k)(h2:k<=11):k=0\/k=1\/k=2\/k=3\/k=4\/k=5\/k=6\/k=7\/k=8\/k=9\/k=10\/k=11:=by omega
theorem kp{k:Int}(h1:0<=k)(h2:k<=11)(hk:dJ k=false):k=0\/k=1\/k=2\/k=4\/k=5\/k=9\/k=11:=by
 rcases k12 h1 h2 with rfl|rfl|rfl|rfl|rfl|rfl|rfl|rfl|rfl|rfl|rfl|rfl<;>first|exact absurd hk (by decide)|simp
theorem LU{k:Int}{r u:List Int}{t:Thing}{n:Nat}(h1:0<=k)(h2:k<=11)(hk:dJ k=false) :
 iR k r=some (t,u)↔kindIn (oG n) k r=some (t,u)/\right n t=true/\plain n t=true:=by
 have hc:=kp h1 h2 hk
 have pl:∀ t:Thing,(match t with|.leaders _ _ _=>false|.box _ _ _ _ _ _ _=>false|.disc _ _ _=>false|.adjust _=>false|.insert _ _ _ _ _=>false|_=>true)=true->plain n t=true:=by
  intro t ht
  cases t<;>first|(cases n<;>rfl)|cases ht
 rcases hc with rfl|rfl|rfl|rfl|rfl|rfl|rfl
 ·simp only [iR,kindIn,nN,gH,Prod.exists,fH,Prod.mk.injEq,Int.reduceEq,↓reduceIte]
  constructor
  ·rintro ⟨x,v,⟨rfl,h1,h2⟩,w,v1,⟨rfl,h3⟩,h,v2,⟨rfl,h4⟩,d,v3,⟨rfl,h5⟩,rfl,rfl⟩
   refine ⟨by simp [h1],?_,pl _ rfl⟩
   have e:right n (.glyph x.toNat w h d)=(decide ((x.toNat:Int)<=NAMES)&&(isLen w&&(isLen h&&isLen d))):=by cases n<;>rfl
   rw [e,dO.mpr h3,dO.mpr h4,dO.mpr h5,Int.toNat_of_nonneg h1]
   simp [h2]
  ·rintro ⟨h,k,_⟩
   split at h
   ·rename_i x w hh d v
    split at h
    ·rename_i hx
     simp only [Option.some.injEq,Prod.mk.injEq] at h
     obtain ⟨rfl,rfl⟩:=h
     have e:right n (.glyph x.toNat w hh d)=(decide ((x.toNat:Int)<=NAMES)&&(isLen w&&(isLen hh&&isLen d))):=by cases n<;>rfl
     rw [e,Int.toNat_of_nonneg hx] at k
     simp only [Bool.and_eq_true,decide_eq_true_eq,dO] at k
     exact ⟨x,_,⟨rfl,hx,k.1⟩,w,_,⟨rfl,k.2.1⟩,hh,_,⟨rfl,k.2.2.1⟩,d,_,⟨rfl,k.2.2.2⟩,rfl,rfl⟩
    ·cases h
   ·cases h
 ·simp only [iR,kindIn,Int.reduceEq,gH,Prod.exists,fH,Prod.mk.injEq,↓reduceIte]
  constructor
  ·rintro ⟨x,v,⟨rfl,h1⟩,rfl,rfl⟩
   exact ⟨rfl,by have e:right n (.kern x)=isLen x:=by { cases n<;>rfl };rw [e];exact dO.mpr h1,pl _ rfl⟩
  ·rintro ⟨h,k,_⟩
   split at h
   ·rename_i x v
    simp only [Option.some.injEq,Prod.mk.injEq] at h
    obtain ⟨rfl,rfl⟩:=h
    have e:right n (.kern x)=isLen x:=by cases n<;>rfl
    rw [e,dO] at k
    exact ⟨x,_,⟨rfl,k⟩,rfl,rfl⟩
   ·cases h
 ·simp only [iR,kindIn,Int.reduceEq,gH,Prod.exists,q_,Prod.mk.injEq,↓reduceIte]
  constructor
  ·rintro ⟨x,v,⟨h1,h2⟩,rfl,rfl⟩
   exact ⟨⟨x,_,h1,rfl,rfl⟩,by have e:right n (.glue x)=glueOk x:=by { cases n<;>rfl };rw [e];exact h2,pl _ rfl⟩
  ·rintro ⟨⟨x,v,h1,rfl,rfl⟩,k,_⟩
   have e:right n (.glue x)=glueOk x:=by cases n<;>rfl
   rw [e] at k
   exact ⟨x,_,⟨h1,k⟩,rfl,rfl⟩
 ·simp only [iR,kindIn,Int.reduceEq,gH,Prod.exists,fH,Prod.mk.injEq,↓reduceIte]
  constructor
  ·rintro ⟨x,v,⟨rfl,h1⟩,rfl,rfl⟩
   exact ⟨rfl,by have e:right n (.penalty x)=isLen x:=by { cases n<;>rfl };rw [e];exact dO.mpr h1,pl _ rfl⟩
  ·rintro ⟨h,k,_⟩
   split at h
   ·rename_i x v
    simp only [Option.some.injEq,Prod.mk.injEq] at h
    obtain ⟨rfl,rfl⟩:=h
    have e:right n (.penalty x)=isLen x:=by cases n<;>rfl
    rw [e,dO] at k
    exact ⟨x,_,⟨rfl,k⟩,rfl,rfl⟩
   ·cases h
 ·have e:∀ w h d,right n (.rule w h d)=(optOk w&&(optOk h&&optOk d)):=by intro w h d;cases n<;>rfl
  have e2:kindIn (oG n) 5 r=(optIn r).bind fun w=>(optIn w.2).bind fun h=>(optIn h.2).map fun (d:Option Int×List Int)=>(.rule w.1 h.1 d.1,d.2):=by
   simp only [kindIn,Int.reduceEq,↓reduceIte]
   cases optIn r with
   | none=>rfl
   | some w =>
    simp only [Option.bind_some]
    cases optIn w.2<;>rfl
  rw [e2]
  simp only [iR,Int.reduceEq,nN,gH,Prod.exists,O9,Prod.mk.injEq,↓reduceIte]
  constructor
  ·rintro ⟨w,v,⟨h1,h2⟩,hh,v2,⟨h3,h4⟩,d,v3,⟨h5,h6⟩,rfl,rfl⟩
   exact ⟨⟨w,v,h1,hh,v2,h3,d,_,h5,rfl,rfl⟩,by rw [e,h2,h4,h6];rfl,pl _ rfl⟩
  ·rintro ⟨⟨w,v,h1,hh,v2,h3,d,v3,h5,rfl,rfl⟩,k,_⟩
   rw [e] at k
   simp only [Bool.and_eq_true] at k
   exact ⟨w,v,⟨h1,k.1⟩,hh,v2,⟨h3,k.2.1⟩,d,_,⟨h5,k.2.2⟩,rfl,rfl⟩
 ·have e:∀ c,right n (.mark c)=decide ((c:Int)<=CLASSES):=by intro c;cases n<;>rfl
  simp only [iR,kindIn,Int.reduceEq,gH,Prod.exists,fH,Prod.mk.injEq,↓reduceIte]
  constructor
  ·rintro ⟨x,v,⟨rfl,h1,h2⟩,rfl,rfl⟩
   exact ⟨by simp [h1],by rw [e,Int.toNat_of_nonneg h1];simp [h2],pl _ rfl⟩
  ·rintro ⟨h,k,_⟩
   split at h
   ·rename_i x v
    split at h
    ·rename_i hx
     simp only [Option.some.injEq,Prod.mk.injEq] at h
     obtain ⟨rfl,rfl⟩:=h
     rw [e,Int.toNat_of_nonneg hx,decide_eq_true_eq] at k
     exact ⟨x,_,⟨rfl,hx,k⟩,rfl,rfl⟩
    ·cases h
   ·cases h
 ·have e:∀ c,right n (.anchor c)=decide ((c:Int)<=NAMES):=by intro c;cases n<;>rfl
  simp only [iR,kindIn,Int.reduceEq,gH,Prod.exists,fH,Prod.mk.injEq,↓reduceIte]
  constructor
  ·rintro ⟨x,v,⟨rfl,h1,h2⟩,rfl,rfl⟩
   exact ⟨by simp [h1],by rw [e,Int.toNat_of_nonneg h1];simp [h2],pl _ rfl⟩
  ·rintro ⟨h,k,_⟩
   split at h
   ·rename_i x v
    split at h
    ·rename_i hx
     simp only [Option.some.injEq,Prod.mk.injEq] at h
     obtain ⟨rfl,rfl⟩:=h
     rw [e,Int.toNat_of_nonneg hx,decide_eq_true_eq] at k
     exact ⟨x,_,⟨rfl,hx,k⟩,rfl,rfl⟩
    ·cases h
   ·cases h
theorem OJ{r u:List Int}{b:MC}:NI r=some (b,u)↔r=b.c::b.w::b.h::b.d::b.o::b.p::b.q::b.s::u/\(0<=b.c/\b.c<=1)/\isLen b.w=true/\isLen b.h=true/\isLen b.d=true/\(0<=b.o/\b.o<=3)/\(1 - WIDE<=b.p/\b.p<=WIDE - 1)/\(1<=b.q/\b.q<=WIDE - 1)/\isLen b.s=true:=by
 simp only [NI,nN,gH,Prod.exists,fH,Prod.mk.injEq,dO]
 constructor
 ·rintro ⟨c,v,⟨rfl,h1⟩,w,v1,⟨rfl,h2⟩,h,v2,⟨rfl,h3⟩,d,v3,⟨rfl,h4⟩,o,v4,⟨rfl,h5⟩,p,v5,⟨rfl,h6⟩,q,v6,⟨rfl,h7⟩,s,v7,⟨rfl,h8⟩,rfl,rfl⟩
  exact ⟨rfl,h1,h2,h3,h4,h5,h6,h7,h8⟩
 ·rintro ⟨rfl,h1,h2,h3,h4,h5,h6,h7,h8⟩
  exact ⟨_,_,⟨rfl,h1⟩,_,_,⟨rfl,h2⟩,_,_,⟨rfl,h3⟩,_,_,⟨rfl,h4⟩,_,_,⟨rfl,h5⟩,_,_,⟨rfl,h6⟩,_,_,⟨rfl,h7⟩,_,_,⟨rfl,h8⟩,rfl,rfl⟩
theorem Pb{n:Nat}{lo:Bool}{l:List Thing}:l.all (fun t=>right n t&&(lo||plain n t))=true↔l.all (right n)=true/\(lo=true\/l.all (plain n)=true):=by
 simp only [all_eq_true,Bool.and_eq_true,Bool.or_eq_true]
 constructor
 ·intro h
  refine ⟨fun t ht=>(h t ht).1,?_⟩
  cases lo with
  | true=>exact .inl rfl
  | false=>exact .inr fun t ht=>(h t ht).2.resolve_left (by simp)
 ·rintro ⟨h1,h2⟩ t ht
  exact ⟨h1 t ht,h2.imp id fun h=>h t ht⟩
theorem Nl{n:Nat}(ih:∀ lo r t u,bO n lo r=some (t,u)↔thingIn n r=some (t,u)/\right n t=true/\(lo=true\/plain n t=true))
 {lo:Bool} {k:Int} {r u:List Int} {t:Thing} (hk:dJ k=true) :
 hU (bO n) lo k r=some (t,u)↔kindIn (thingIn n) k r=some (t,u)/\right (n+1) t=true/\(lo=true\/plain (n+1) t=true):=by
 have il:∀ r l u,listIn (bO n lo) r=some (l,u)↔listIn (thingIn n) r=some (l,u)/\l.all (right n)=true/\(lo=true\/l.all (plain n)=true):=fun r l u=>by
  rw [EW (f':=thingIn n) (p:=fun t=>right n t&&(lo||plain n t)),Pb]
  intro r t u
  rw [ih,Bool.and_eq_true,Bool.or_eq_true]
 have hc:k=3\/k=6\/k=7\/k=8\/k=10:=by
  simpa [dJ] using hk
 rcases hc with rfl|rfl|rfl|rfl|rfl
 ·cases lo with
  | false =>
   simp only [hU,Bool.false_eq_true,reduceCtorEq,false_iff,Int.reduceEq,↓reduceIte]
   rintro ⟨h,_,h2⟩
   simp only [kindIn,Int.reduceEq,↓reduceIte] at h
   split at h
   ·split at h
    ·rw [gH] at h
     obtain ⟨⟨t',u'⟩,_,h4⟩:=h
     cases h4
     rcases h2 with h2|h2<;>cases h2
    ·cases h
   ·cases h
  | true =>
   simp only [hU,nN,Prod.exists,fH,q_,ih,kindIn,Int.reduceEq,↓reduceIte]
   constructor
   ·rintro ⟨g,v,⟨h1,h2⟩,how,v1,⟨rfl,h3,h4⟩,t',u',⟨h5,h6,h7⟩,h8⟩
    split at h8
    ·rename_i hr
     simp only [Option.some.injEq,Prod.mk.injEq] at h8
     obtain ⟨rfl,rfl⟩:=h8
     rw [h1]
     refine ⟨?_,?_,.inl (by first|trivial|rfl)⟩
     ·show (if 0<=how then _ else _)=_
      rw [if_pos h3,h5];rfl
     ·show (glueOk g&&(decide (how.toNat<=2)&&(repeated t'&&(plain n t'&&right n t'))))=true
      have h7:plain n t'=true:=by simpa using h7
      rw [h2,h6,h7,hr]
      simp;omega
    ·cases h8
   ·rintro ⟨h,k,_⟩
    split at h
    ·rename_i g how v hg
     split at h
     ·rename_i hh
      rw [gH] at h
      obtain ⟨⟨t',u'⟩,h1,h2⟩:=h
      cases h2
      have k:(glueOk g&&(decide (how.toNat<=2)&&(repeated t'&&(plain n t'&&right n t'))))=true:=k
      simp only [Bool.and_eq_true,decide_eq_true_eq] at k
      refine ⟨g,_,⟨hg,k.1⟩,how,v,⟨rfl,hh,by omega⟩,t',u',⟨h1,k.2.2.2.2,.inr k.2.2.2.1⟩,?_⟩
      rw [if_pos k.2.2.1]
     ·cases h
    ·cases h
 ·simp only [hU,Int.reduceEq,nN,gH,Prod.exists,OJ,il,kindIn,↓reduceIte]
  constructor
  ·rintro ⟨b,v,⟨rfl,h1,h2,h3,h4,h5,h6,h7,h8⟩,l,u',⟨h9,h10,h11⟩,h12⟩
   cases h12
   obtain ⟨c,w,hh,d,o,p,q,s⟩:=b
   refine ⟨?_,?_,h11.imp id fun x=>x⟩
   ·simp only at h5 h7 h1
    show (if 0<=o/\0<=q then _ else _)=_
    rw [if_pos ⟨h5.1,by omega⟩]
    have hb:boolIn c=some (c==1):=by
     have:c=0\/c=1:=by omega
     rcases this with rfl|rfl<;>rfl
    rw [hb,h9];rfl
   ·show (isLen w&&(isLen hh&&(isLen d&&(settingOk ⟨o.toNat,p,q.toNat⟩&&(isLen s&&l.all (right n))))))=true
    simp only at h2 h3 h4 h5 h6 h7 h8
    rw [h2,h3,h4,h8,h10]
    simp only [settingOk,Bool.true_and,Bool.and_true,Bool.and_eq_true,decide_eq_true_eq]
    omega
  ·rintro ⟨h,k,k2⟩
   split at h
   ·rename_i c w hh d o p q s v
    split at h
    ·rename_i hoq
     split at h
     ·cases h
     ·rename_i b hb
      rw [gH] at h
      obtain ⟨⟨l,u'⟩,h1,h2⟩:=h
      cases h2
      have k:(isLen w&&(isLen hh&&(isLen d&&(settingOk ⟨o.toNat,p,q.toNat⟩&&(isLen s&&l.all (right n))))))=true:=k
      simp only [settingOk,Bool.and_eq_true,decide_eq_true_eq] at k
      have hc:=Dg hb
      have hc2:c=0\/c=1:=by subst hc;cases b<;>simp [flag]
      refine ⟨⟨c,w,hh,d,o,p,q,s⟩,v,⟨rfl,by simp only;omega,k.1,k.2.1,k.2.2.1,⟨hoq.1,(by show o<=3;omega)⟩,(by show 1 - WIDE<=p/\p<=WIDE - 1;omega),(by show 1<=q/\q<=WIDE - 1;omega),k.2.2.2.2.1⟩,l,_,⟨h1,k.2.2.2.2.2,k2.imp id fun x=>x⟩,?_⟩
      subst hc
      cases b<;>rfl
    ·cases h
   ·cases h
 ·have e2:kindIn (thingIn n) 7 r=(listIn (thingIn n) r).bind fun a=>(listIn (thingIn n) a.2).bind fun b=>(listIn (thingIn n) b.2).map fun (c:List Thing×List Int)=>(.disc a.1 b.1 c.1,c.2):=by
   simp only [kindIn,Int.reduceEq,↓reduceIte]
   cases listIn (thingIn n) r with
   | none=>rfl
   | some w =>
    simp only [Option.bind_some]
    cases listIn (thingIn n) w.2<;>rfl
  rw [e2]
  simp only [hU,Int.reduceEq,nN,gH,Prod.exists,il,↓reduceIte]
  constructor
  ·rintro ⟨a,v,⟨h1,h2,h3⟩,b,v2,⟨h4,h5,h6⟩,c,v3,⟨h7,h8,h9⟩,h10⟩
   cases h10
   refine ⟨⟨a,v,h1,b,v2,h4,c,_,h7,rfl⟩,?_,?_⟩
   ·show (a.all (right n)&&(b.all (right n)&&c.all (right n)))=true
    rw [h2,h5,h8];rfl
   ·rcases h3 with h3|h3
    ·exact .inl h3
    ·rcases h6 with h6|h6
     ·exact .inl h6
     ·rcases h9 with h9|h9
      ·exact .inl h9
      ·refine .inr ?_
       show (a.all (plain n)&&(b.all (plain n)&&c.all (plain n)))=true
       rw [h3,h6,h9];rfl
  ·rintro ⟨⟨a,v,h1,b,v2,h4,c,v3,h7,h10⟩,k,k2⟩
   cases h10
   have k:(a.all (right n)&&(b.all (right n)&&c.all (right n)))=true:=k
   simp only [Bool.and_eq_true] at k
   have k2:lo=true\/(a.all (plain n)&&(b.all (plain n)&&c.all (plain n)))=true:=k2
   simp only [Bool.and_eq_true] at k2
   exact ⟨a,v,⟨h1,k.1,k2.imp id fun x=>x.1⟩,b,v2,⟨h4,k.2.1,k2.imp id fun x=>x.2.1⟩,c,_,⟨h7,k.2.2,k2.imp id fun x=>x.2.2⟩,rfl⟩
 ·simp only [hU,Int.reduceEq,gH,Prod.exists,il,kindIn,↓reduceIte]
  constructor
  ·rintro ⟨l,v,⟨h1,h2,h3⟩,h4⟩
   cases h4
   exact ⟨⟨l,_,h1,rfl⟩,h2,h3.imp id fun x=>x⟩
  ·rintro ⟨⟨l,v,h1,h4⟩,k,k2⟩
   cases h4
   exact ⟨l,_,⟨h1,k,k2.imp id fun x=>x⟩,rfl⟩
 ·simp only [hU,Int.reduceEq,nN,gH,Prod.exists,il,fH,q_,kindIn,↓reduceIte]
  constructor
  ·rintro ⟨c,v,⟨rfl,h1,h2⟩,g,v2,⟨h3,h4⟩,d,v3,⟨rfl,h5⟩,k,v4,⟨rfl,h6⟩,l,v5,⟨h7,h8,h9⟩,h10⟩
   cases h10
   refine ⟨?_,?_,h9.imp id fun x=>x⟩
   ·show (match glueIn v with|some (g,d::cost::v)=>_|_=>none)=_
    rw [h3]
    show (if 0<=c then _ else _)=_
    rw [if_pos h1,h7];rfl
   ·show (decide ((c.toNat:Int)<=CLASSES)&&(glueOk g&&(isLen d&&(isLen k&&l.all (right n)))))=true
    rw [h4,dO.mpr h5,dO.mpr h6,h8,Int.toNat_of_nonneg h1]
    simp [h2]
  ·rintro ⟨h,k,k2⟩
   split at h
   ·rename_i c v
    split at h
    ·rename_i g d cost v2 hg
     split at h
     ·rename_i hc
      rw [gH] at h
      obtain ⟨⟨l,u'⟩,h1,h2⟩:=h
      cases h2
      have k:(decide ((c.toNat:Int)<=CLASSES)&&(glueOk g&&(isLen d&&(isLen cost&&l.all (right n)))))=true:=k
      rw [Int.toNat_of_nonneg hc] at k
      simp only [Bool.and_eq_true,decide_eq_true_eq,dO] at k
      exact ⟨c,v,⟨rfl,hc,k.1⟩,g,_,⟨hg,k.2.1⟩,d,_,⟨rfl,k.2.2.1⟩,cost,_,⟨rfl,k.2.2.2.1⟩,l,_,⟨h1,k.2.2.2.2,k2.imp id fun x=>x⟩,rfl⟩
     ·cases h
    ·cases h
   ·cases h
theorem Ab{f:List Int->Option (Thing×List Int)}{k:Int}{r:List Int}(h:¬ (0<=k/\k<=11)):kindIn f k r=none:=by
 unfold kindIn
 repeat rw [if_neg (by omega)]
theorem Jm{k:Int}{r u:List Int}{t:Thing}(hk:dJ k=true)(h:kindIn (fun _=>none) k r=some (t,u)):right 0 t=false:=by
 have hc:k=3\/k=6\/k=7\/k=8\/k=10:=by
  simpa [dJ] using hk
 rcases hc with rfl|rfl|rfl|rfl|rfl<;>simp only [kindIn,Int.reduceEq,↓reduceIte] at h
 ·split at h
  ·split at h
   ·rw [gH] at h;obtain ⟨a,_,e⟩:=h;cases e;rfl
   ·cases h
  ·cases h
 ·split at h
  ·split at h
   ·split at h
    ·cases h
    ·rw [gH] at h;obtain ⟨a,_,e⟩:=h;cases e;rfl
   ·cases h
  ·cases h
 ·split at h
  ·cases h
  ·split at h
   ·cases h
   ·rw [gH] at h;obtain ⟨a,_,e⟩:=h;cases e;rfl
 ·rw [gH] at h;obtain ⟨a,_,e⟩:=h;cases e;rfl
 ·split at h
  ·split at h
   ·split at h
    ·rw [gH] at h;obtain ⟨a,_,e⟩:=h;cases e;rfl
    ·cases h
   ·cases h
  ·cases h
theorem JT{f:List Int->Option (Thing×List Int)}{k:Int}{r u:List Int}{t:Thing}(n:Nat)(hk:dJ k=false)(h:kindIn f k r=some (t,u)):plain n t=true:=by
 have h12:0<=k/\k<=11:=by
  by_cases q:0<=k/\k<=11
  ·exact q
  ·rw [Ab q] at h;cases h
 have hc:=kp h12.1 h12.2 hk
 rcases hc with rfl|rfl|rfl|rfl|rfl|rfl|rfl<;>simp only [kindIn,Int.reduceEq,↓reduceIte] at h
 ·split at h
  ·split at h
   ·cases h;cases n<;>rfl
   ·cases h
  ·cases h
 ·split at h
  ·cases h;cases n<;>rfl
  ·cases h
 ·rw [gH] at h;obtain ⟨a,_,e⟩:=h;cases e;cases n<;>rfl
 ·split at h
  ·cases h;cases n<;>rfl
  ·cases h
 ·split at h
  ·cases h
  ·split at h
   ·cases h
   ·rw [gH] at h;obtain ⟨a,_,e⟩:=h;cases e;cases n<;>rfl
 ·split at h
  ·split at h
   ·cases h;cases n<;>rfl
   ·cases h
  ·cases h
 ·split at h
  ·split at h
   ·cases h;cases n<;>rfl
   ·cases h
  ·cases h
theorem CY(n:Nat)(lo:Bool)(k:Int)(r:List Int)(t:Thing)(u:List Int)(F:Option (Thing×List Int))(hF:dJ k=true->(F=some (t,u)↔kindIn (oG n) k r=some (t,u)/\right n t=true/\(lo=true\/plain n t=true))) :
 (if 0<=k/\k<=11 then (if dJ k=true then F else iR k r) else none)=some (t,u)↔thingIn n (k::r)=some (t,u)/\right n t=true/\(lo=true\/plain n t=true):=by
 rw [cE]
 by_cases hk:0<=k/\k<=11
 ·rw [if_pos hk]
  by_cases hd:dJ k=true
  ·rw [if_pos hd];exact hF hd
  ·rw [if_neg hd]
   have hd':dJ k=false:=by simpa using hd
   rw [LU (n:=n) hk.1 hk.2 hd']
   constructor
   ·rintro ⟨h1,h2,h3⟩;exact ⟨h1,h2,.inr h3⟩
   ·rintro ⟨h1,h2,h3⟩
    exact ⟨h1,h2,JT n hd' h1⟩
 ·rw [Ab hk,if_neg hk];simp
theorem EM{α:Type}(lo hi k:Int)(r:List Int)(f:Int×List Int->Option α):(bZ lo hi (k::r)).bind f=if lo<=k/\k<=hi then f (k,r) else none:=by
 simp only [bZ];split<;>rfl
theorem sM:∀ (n:Nat) (lo:Bool) (r:List Int) (t:Thing) (u:List Int),bO n lo r=some (t,u)↔thingIn n r=some (t,u)/\right n t=true/\(lo=true\/plain n t=true)
 | n,lo,[],t,u=>by
  rw [t8]
  cases n<;>simp [bO,bZ]
 | 0,lo,k::r,t,u=>by
  rw [<-CY 0 lo k r t u none]
  ·rw [bO,EM]
  ·intro hd
   simp only [reduceCtorEq,false_iff]
   rintro ⟨h1,h2,_⟩
   rw [Jm hd h1] at h2
   cases h2
 | n+1,lo,k::r,t,u=>by
  rw [<-CY (n+1) lo k r t u (hU (bO n) lo k r)]
  ·rw [bO,EM]
  ·intro hd
   exact Nl (sM n) hd
theorem DB{n:Nat}{f:List Int->Option (Thing×List Int)}(ih:∀ r t u,f r=some (t,u)->r=nums n t++u/\fits n t=true){k:Int}{r u:List Int}{t:Thing}(h:kindIn f k r=some (t,u)):k::r=nums (n+1) t++u/\fits (n+1) t=true:=by
 have h12:0<=k/\k<=11:=by
  by_cases q:0<=k/\k<=11
  ·exact q
  ·rw [Ab q] at h;cases h
 have hc:=k12 h12.1 h12.2
 have il:=fun {r l u} (h:listIn f r=some (l,u))=>DD ih h
 rcases hc with rfl|rfl|rfl|rfl|rfl|rfl|rfl|rfl|rfl|rfl|rfl|rfl<;>simp only [kindIn,Int.reduceEq,↓reduceIte] at h
 ·split at h
  ·split at h
   ·rename_i hx;cases h;simp [nums,fits,Int.toNat_of_nonneg hx]
   ·cases h
  ·cases h
 ·split at h
  ·cases h;simp [nums,fits]
  ·cases h
 ·rw [gH] at h;obtain ⟨⟨g,v⟩,h1,e⟩:=h;cases e
  rw [t7 h1];simp [nums,fits]
 ·split at h
  ·rename_i g how v hg
   split at h
   ·rename_i hx
    rw [gH] at h;obtain ⟨⟨t',v'⟩,h1,e⟩:=h;cases e
    obtain ⟨e1,e2⟩:=ih _ _ _ h1
    rw [t7 hg,e1]
    simp [nums,fits,e2,Int.toNat_of_nonneg hx]
   ·cases h
  ·cases h
 ·split at h
  ·cases h;simp [nums,fits]
  ·cases h
 ·split at h
  ·cases h
  ·rename_i w hw
   split at h
   ·cases h
   ·rename_i hh hhh
    rw [gH] at h;obtain ⟨⟨d,v⟩,h1,e⟩:=h;cases e
    rw [r_ hw,r_ hhh,r_ h1];simp [nums,fits]
 ·split at h
  ·rename_i c w hh d o p q s v
   split at h
   ·rename_i hoq
    split at h
    ·cases h
    ·rename_i b hb
     rw [gH] at h;obtain ⟨⟨l,v'⟩,h1,e⟩:=h;cases e
     obtain ⟨e1,e2⟩:=il h1
     rw [e1,Dg hb]
     refine ⟨?_,e2⟩
     simp [nums,Int.toNat_of_nonneg hoq.1,Int.toNat_of_nonneg hoq.2]
   ·cases h
  ·cases h
 ·split at h
  ·cases h
  ·rename_i a ha
   split at h
   ·cases h
   ·rename_i b hb
    rw [gH] at h;obtain ⟨⟨c,v'⟩,h1,e⟩:=h;cases e
    obtain ⟨e1,e2⟩:=il ha
    obtain ⟨e3,e4⟩:=il hb
    obtain ⟨e5,e6⟩:=il h1
    rw [e1,e3,e5]
    refine ⟨by simp [nums],?_⟩
    show (a.1.all (fits n)&&(b.1.all (fits n)&&c.all (fits n)))=true
    rw [e2,e4,e6];rfl
 ·rw [gH] at h;obtain ⟨⟨l,v'⟩,h1,e⟩:=h;cases e
  obtain ⟨e1,e2⟩:=il h1
  rw [e1]
  exact ⟨by simp [nums],e2⟩
 ·split at h
  ·split at h
   ·rename_i hx;cases h;simp [nums,fits,Int.toNat_of_nonneg hx]
   ·cases h
  ·cases h
 ·split at h
  ·rename_i c v
   split at h
   ·rename_i g d cost v2 hg
    split at h
    ·rename_i hx
     rw [gH] at h;obtain ⟨⟨l,v'⟩,h1,e⟩:=h;cases e
     obtain ⟨e1,e2⟩:=il h1
     rw [t7 hg,e1]
     exact ⟨by simp [nums,Int.toNat_of_nonneg hx],e2⟩
    ·cases h
   ·cases h
  ·cases h
 ·split at h
  ·split at h
   ·rename_i hx;cases h;simp [nums,fits,Int.toNat_of_nonneg hx]
   ·cases h
  ·cases h
theorem pI{n:Nat}{lo:Bool}{r u:List Int}{t:Thing}(h:bO n lo r=some (t,u)):r=nums n t++u/\right n t=true:=by
 obtain ⟨h1,h2,_⟩:=(sM n lo r t u).mp h
 refine ⟨?_,h2⟩
 have aux:∀ (n:Nat) (r:List Int) (t:Thing) (u:List Int),thingIn n r=some (t,u)->right n t=true->r=nums n t++u:=by
  intro n
  have step:∀ (n:Nat) (r:List Int) (t:Thing) (u:List Int),thingIn n r=some (t,u)->r=nums (n+1) t++u/\fits (n+1) t=true:=by
   intro n
   induction n with
   | zero =>
    intro r t u h
    cases r with
    | nil=>rw [t8] at h;cases h
    | cons k r =>
     rw [cE] at h
     exact DB (n:=0) (f:=oG 0) (fun _ _ _ h=>nomatch h) h
   | succ n ih =>
    intro r t u h
    cases r with
    | nil=>rw [t8] at h;cases h
    | cons k r =>
     rw [cE] at h
     exact DB (n:=n+1) (f:=oG (n+1)) ih h
  intro r t u h hr
  have e:=(step n r t u h).1
  rw [(gJ n t (fT n t hr)).2] at e
  exact e
 exact aux n r t u h1 h2
theorem Iu{n m:Nat}{t:Thing}{r:List Int}(hf:fits m t=true):bO n true (nums m t++r)=if right n t=true then some (t,r) else none:=by
 by_cases hr:right n t=true
 ·rw [if_pos hr]
  rw [sM]
  refine ⟨?_,hr,.inl rfl⟩
  have hn:=fT n t hr
  have e:nums m t=nums n t:=by
   rcases Nat.le_total m n with q|q
   ·exact (Ic hf q).2.symm
   ·exact (Ic hn q).2
  rw [e]
  exact dC n t n r hn (Nat.le_refl _)
 ·rw [if_neg hr]
  cases q:bO n true (nums m t++r) with
  | none=>rfl
  | some x =>
   obtain ⟨t',u⟩:=x
   obtain ⟨e1,e2⟩:=pI q
   have a:=dC m t (max m n) r hf (Nat.le_max_left _ _)
   have b:=dC n t' (max m n) u (fT n t' e2) (Nat.le_max_right _ _)
   rw [e1,b] at a
   cases a
   exact absurd e2 hr
end Cp
namespace Cp
open SbThing SbPack SgPage
def xW(r:List Int):Option (List Thing):=match listIn (bO DEEP true) r with
 | some (l,[])=>some l
 | _=>none
theorem t6(n:Nat)(lo:Bool)(r:List Int)(l:List Thing)(u:List Int):listIn (bO n lo) r=some (l,u)↔listIn (thingIn n) r=some (l,u)/\l.all (right n)=true/\(lo=true\/l.all (plain n)=true):=by
 rw [EW (f':=thingIn n) (p:=fun t=>right n t&&(lo||plain n t)),Pb]
 intro r t u
 rw [sM,Bool.and_eq_true,Bool.or_eq_true]
theorem Lj(r:List Int):xW r=SbThing.read r:=by
 unfold xW SbThing.read
 cases h:listIn (thingIn DEEP) r with
 | none =>
  cases h2:listIn (bO DEEP true) r with
  | none=>rfl
  | some x =>
   obtain ⟨l,u⟩:=x
   rw [t6,h] at h2
   cases h2.1
 | some x =>
  obtain ⟨l,u⟩:=x
  cases h2:listIn (bO DEEP true) r with
  | none =>
   cases u with
   | cons _ _=>rfl
   | nil =>
    by_cases q:l.all (right DEEP)=true
    ·have:=(t6 DEEP true r l []).mpr ⟨h,q,.inl rfl⟩
     rw [h2] at this;cases this
    ·simp [q]
  | some x =>
   obtain ⟨l',u'⟩:=x
   rw [t6,h] at h2
   obtain ⟨h2,h3,_⟩:=h2
   cases h2
   cases u with
   | cons _ _=>rfl
   | nil=>simp [h3]
theorem EY{f:List Int->Option (Thing×List Int)}(h:∀ r t u,f r=some (t,u)->u.length+1<=r.length):∀ (n:Nat) (r:List Int) (l:List Thing) (u:List Int),many f n r=some (l,u)->u.length+n<=r.length
 | 0,r,l,u,e=>by simp only [many,Option.some.injEq,Prod.mk.injEq] at e;rw [e.2];omega
 | n+1,r,l,u,e=>by
  simp only [many] at e
  split at e
  ·cases e
  ·rename_i x hx
   rw [gH] at e
   obtain ⟨⟨l',u'⟩,e1,e2⟩:=e
   cases e2
   have a:=h r x.1 x.2 hx
   have b:=EY h n _ _ _ e1
   simp only
   omega
theorem J_{n:Nat}{t:Thing}(h:fits n t=true):1<=(nums n t).length:=by
 cases t<;>cases n<;>first|(simp [nums];done)|(simp [nums];omega)|(simp [fits] at h)
theorem FW{n:Nat}{lo:Bool}{r u:List Int}{t:Thing}(h:bO n lo r=some (t,u)):u.length+1<=r.length:=by
 obtain ⟨e,hr⟩:=pI h
 have:=J_ (fT n t hr)
 rw [e,length_append];omega
theorem L5{n:Nat}{lo:Bool}{k:Int}{r u:List Int}{l:List Thing}(h:listIn (bO n lo) (k::r)=some (l,u)):k<=(r.length:Int)/\u.length<=r.length:=by
 simp only [listIn] at h
 split at h
 ·have:=EY (fun r t u h=>FW h) _ _ _ _ h
  omega
 ·cases h
theorem ID{n:Nat}{lo:Bool}{r u:List Int}{l:List Thing}(h:listIn (bO n lo) r=some (l,u)):r=listNums (nums n) l++u/\l.all (right n)=true :=
 DD (f:=bO n lo) (fun r t u h=>pI h) h
inductive L6{α β:Type}(R:α->β->Prop):List α->List β->Prop where
 | nil:L6 R [] []
 | cons {a:α} {b:β} {l₁:List α} {l₂:List β}:R a b->L6 R l₁ l₂->L6 R (a::l₁) (b::l₂)
def Ih(t:Thing)(ns:List Int):Prop:=∃ m,fits m t=true/\ns=nums m t
theorem He{n:Nat}:∀ (l:List Thing) (nss:List (List Int)) (r:List Int),L6 Ih l nss->many (bO n true) l.length (nss.flatten++r)=if l.all (right n)=true then some (l,r) else none
 | [],_,_,.nil=>by simp [many]
 | t::l,_,r,.cons (b:=ns) (l₂:=nss) hx h=>by
  obtain ⟨m,hf,rfl⟩:=hx
  rw [List.flatten_cons,append_assoc,length_cons]
  simp only [many]
  rw [Iu hf]
  by_cases q:right n t=true
  ·rw [if_pos q]
   simp only
   rw [He l nss r h]
   by_cases q2:l.all (right n)=true
   ·rw [if_pos q2,if_pos (by rw [all_cons,q,q2];rfl)];rfl
   ·rw [if_neg q2,if_neg (by rw [all_cons,q];simpa using q2)];rfl
  ·rw [if_neg q,if_neg (by rw [all_cons];simp [q])]
theorem Lu{l:List Thing}{nss:List (List Int)}(h:L6 Ih l nss):xW ((l.length:Int)::nss.flatten)=if l.all (right DEEP)=true then some l else none:=by
 unfold xW
 have e:listIn (bO DEEP true) ((l.length:Int)::nss.flatten)=if l.all (right DEEP)=true then some (l,[]) else none:=by
  simp only [listIn]
  rw [if_pos (Int.natCast_nonneg _),Int.toNat_natCast]
  have:=He (n:=DEEP) l nss [] h
  rwa [List.append_nil] at this
 rw [e]
 by_cases q:l.all (right DEEP)=true
 ·rw [if_pos q,if_pos q]
 ·rw [if_neg q,if_neg q]
theorem Em(l:List Thing)(t:Thing):columnSum (l++[t])=columnSum l+inColumn t:=by
 simp [columnSum]
theorem Cy(l:List Thing)(t:Thing):columnWidth (l++[t])=max (columnWidth l) (wideOf t):=by
 simp [columnWidth,List.foldl_append]
def Oc(t:Thing):Bool:=(solid t).isSome||(isGlue t||isKern t)
theorem kQ(l:List Thing)(t:Thing):lastDepth (l++[t])=if Oc t=true then ((solid t).map fun (x:Int×Int)=>x.2).getD 0 else lastDepth l:=by
 unfold lastDepth
 rw [List.reverse_append,List.reverse_singleton,List.singleton_append,List.find?_cons]
 by_cases h:Oc t=true
 ·have h':((solid t).isSome||(isGlue t||isKern t))=true:=h
  rw [if_pos h];simp only [h']
 ·have h':((solid t).isSome||(isGlue t||isKern t))=false:=by simpa [Oc] using h
  rw [if_neg h];simp only [h']
theorem uX(l:List Thing)(t:Thing)(o:Nat):stretchOf (l++[t]) o=stretchOf l o+(match glueOf t with|some g=>if g.so=o then g.stretch else 0|none=>0):=by
 unfold stretchOf
 rw [List.filterMap_append]
 cases h:glueOf t with
 | none=>simp [h]
 | some g =>
  by_cases q:g.so=o
  ·simp [h,q]
  ·simp [h,q]
theorem xZ(l:List Thing)(t:Thing)(o:Nat):shrinkOf (l++[t]) o=shrinkOf l o+(match glueOf t with|some g=>if g.sho=o then g.shrink else 0|none=>0):=by
 unfold shrinkOf
 rw [List.filterMap_append]
 cases h:glueOf t with
 | none=>simp [h]
 | some g =>
  by_cases q:g.sho=o
  ·simp [h,q]
  ·simp [h,q]
def eJ(f:Nat->Int):List Int:=[f 0,f 1,f 2,f 3]
theorem K1(f g:Nat->Int)(o:Nat)(x:Int)(ho:o<=3)(h:∀ i,g i=f i+if o=i then x else 0):eJ g=(eJ f).set o ((eJ f).getD o 0+x):=by
 have:o=0\/o=1\/o=2\/o=3:=by omega
 rcases this with rfl|rfl|rfl|rfl<;>simp [eJ,h]
def cH(l:List Int):Int:=if 0<l.getD 3 0 then 3 else if 0<l.getD 2 0 then 2 else if 0<l.getD 1 0 then 1 else if 0<l.getD 0 0 then 0 else -1
theorem oX(f:Nat->Int):highest f=if 0<f 3 then some 3 else if 0<f 2 then some 2 else if 0<f 1 then some 1 else if 0<f 0 then some 0 else none:=by
 unfold highest
 simp only [List.find?_cons,List.find?_nil]
 by_cases h3:0<f 3<;>by_cases h2:0<f 2<;>by_cases h1:0<f 1<;>by_cases h0:0<f 0<;>simp [h0,h1,h2,h3]
def dG(x:Int)(st sh:List Int):Option Int :=
 if 0<=x then some (if x=0\/0<cH st then 0 else if cH st<0 then WORST else min WORST (100*x ^ 3 / (st.getD 0 0) ^ 3))
 else if 0<cH sh then some 0
 else if cH sh<0\/sh.getD 0 0 < -x then none
 else some (100*(-x) ^ 3 / (sh.getD 0 0) ^ 3)
def jE:Fit->Option Int
 | .fits b=>some b
 | .full _=>none
theorem Qt{x t:Int}(h1:0<=x)(h2:x<=t):x*x*x<=t*t*t:=by
 have h3:0<=t:=Int.le_trans h1 h2
 have a:x*x<=t*t:=Int.mul_le_mul h2 h2 h1 h3
 exact Int.mul_le_mul a h2 h1 (Int.mul_nonneg h3 h3)
theorem OH{t:Int}(h:0<t):0<t*t*t:=Int.mul_pos (Int.mul_pos h h) h
theorem IP(x:Int):x ^ 3=x*x*x:=by
 rw [show (3:Nat)=2+1 from rfl,Int.pow_succ,show (2:Nat)=1+1 from rfl,Int.pow_succ,Int.pow_succ];simp
theorem JU{x t:Int}(h1:0<=x)(h2:x<=t)(ht:0<t):cubed x t=100*x ^ 3 / t ^ 3:=by
 unfold cubed
 rw [IP,IP]
 have a:100*(x*x*x) / (t*t*t)<=100:=by
  have b:=Qt h1 h2
  have c:=OH ht
  exact Int.ediv_le_of_le_mul c (by omega)
 unfold WORST
 omega
theorem Ib(st sh:Nat->Int)(x:Int) :
 jE (if 0<x then (match highest st with|some o=>.fits (if o=0 then cubed x (st 0) else 0)|none=>.fits WORST)
  else if x<0 then (match highest sh with|some o=>if o=0 then (if sh 0 < -x then .full (-x - sh 0) else .fits (cubed (-x) (sh 0))) else .fits 0|none=>.full (-x))
  else .fits 0)=dG x (eJ st) (eJ sh):=by
 have gs:cH (eJ st)=if 0<st 3 then 3 else if 0<st 2 then 2 else if 0<st 1 then 1 else if 0<st 0 then 0 else -1:=rfl
 have gh:cH (eJ sh)=if 0<sh 3 then 3 else if 0<sh 2 then 2 else if 0<sh 1 then 1 else if 0<sh 0 then 0 else -1:=rfl
 have e0:(eJ st).getD 0 0=st 0:=rfl
 have e1:(eJ sh).getD 0 0=sh 0:=rfl
 unfold dG
 rw [gs,gh,e0,e1,oX,oX]
 by_cases hx:0<x
 ·rw [if_pos hx,if_pos (by omega:0<=x)]
  by_cases h3:0<st 3
  ·simp [h3,jE]
  ·by_cases h2:0<st 2
   ·simp [h3,h2,jE]
   ·by_cases h1:0<st 1
    ·simp [h3,h2,h1,jE]
    ·by_cases h0:0<st 0
     ·have:x≠0:=by omega
      simp [h3,h2,h1,h0,jE,this,cubed,IP]
     ·have:x≠0:=by omega
      simp [h3,h2,h1,h0,jE,this]
 ·rw [if_neg hx]
  by_cases hn:x<0
  ·rw [if_pos hn,if_neg (by omega:¬ 0<=x)]
   by_cases h3:0<sh 3
   ·simp [h3,jE]
   ·by_cases h2:0<sh 2
    ·simp [h3,h2,jE]
    ·by_cases h1:0<sh 1
     ·simp [h3,h2,h1,jE]
     ·by_cases h0:0<sh 0
      ·by_cases hl:sh 0 < -x
       ·simp [h3,h2,h1,h0,hl,jE]
       ·simp [h3,h2,h1,h0,hl,jE]
        exact JU (by omega) (by omega) h0
      ·simp [h3,h2,h1,h0,jE]
  ·have:x=0:=by omega
   subst this
   simp [jE]
theorem Rk(l:List Thing)(x:Int):jE (fit l x)=dG x (eJ (stretchOf l)) (eJ (shrinkOf l)):=Ib (stretchOf l) (shrinkOf l) x
theorem OL{st:List Int}(hs:st.length=4)(sh x:Int):jE (fitBy st sh x)=dG x st [sh,0,0,0]:=by
 have e:eJ (fun o=>st.getD o 0)=st:=by
  match st,hs with
  | [a,b,c,d],_=>rfl
 have e2:eJ (fun o=>[sh,0,0,0].getD o 0)=[sh,0,0,0]:=rfl
 have h:=Ib (fun o=>st.getD o 0) (fun o=>[sh,0,0,0].getD o 0) x
 rw [e,e2] at h
 rw [<-h]
 unfold fitBy
 by_cases hx:0<x
 ·rw [if_pos hx,if_pos hx];cases highest fun o=>st.getD o 0<;>rfl
 ·rw [if_neg hx,if_neg hx]
  by_cases hn:x<0
  ·rw [if_pos hn,if_pos hn,oX (fun o=>[sh,0,0,0].getD o 0)]
   by_cases q:0<sh
   ·simp [q]
   ·simp [q]
  ·rw [if_neg hn,if_neg hn]
def iT(x:Int)(st sh:List Int):List Int :=
 let by_:=if 0<x then st else sh
 let o:=cH by_
 if x=0\/o<0 then [0,0,1]
 else if o=0/\by_.getD 0 0 < -x then [0,-(by_.getD 0 0),by_.getD 0 0]
 else [o,x,by_.getD o.toNat 0]
theorem Lo(l:List Thing)(x:Int):[((setting l x).order:Int),(setting l x).num,((setting l x).den:Int)]=iT x (eJ (stretchOf l)) (eJ (shrinkOf l)):=by
 have gs:cH (eJ (stretchOf l))=if 0<stretchOf l 3 then 3 else if 0<stretchOf l 2 then 2 else if 0<stretchOf l 1 then 1 else if 0<stretchOf l 0 then 0 else -1:=rfl
 have gh:cH (eJ (shrinkOf l))=if 0<shrinkOf l 3 then 3 else if 0<shrinkOf l 2 then 2 else if 0<shrinkOf l 1 then 1 else if 0<shrinkOf l 0 then 0 else -1:=rfl
 have e:∀ (f:Nat->Int),(eJ f).getD 0 0=f 0/\(eJ f).getD 1 0=f 1/\(eJ f).getD 2 0=f 2/\(eJ f).getD 3 0=f 3:=fun f=>⟨rfl,rfl,rfl,rfl⟩
 unfold iT setting
 rw [oX,oX]
 by_cases hx:0<x
 ·have hne:x≠0:=by omega
  simp only [if_pos hx,gs]
  by_cases h3:0<stretchOf l 3
  ·simp [h3,hne,eJ];omega
  ·by_cases h2:0<stretchOf l 2
   ·simp [h3,h2,hne,eJ];omega
   ·by_cases h1:0<stretchOf l 1
    ·simp [h3,h2,h1,hne,eJ];omega
    ·by_cases h0:0<stretchOf l 0
     ·have:¬ stretchOf l 0 < -x:=by omega
      simp [h3,h2,h1,h0,hne,eJ,this];omega
     ·simp [h3,h2,h1,h0,noGlue]
 ·by_cases hn:x<0
  ·have hne:x≠0:=by omega
   simp only [if_neg hx,if_pos hn,gh]
   by_cases h3:0<shrinkOf l 3
   ·simp [h3,hne,eJ];omega
   ·by_cases h2:0<shrinkOf l 2
    ·simp [h3,h2,hne,eJ];omega
    ·by_cases h1:0<shrinkOf l 1
     ·simp [h3,h2,h1,hne,eJ];omega
     ·by_cases h0:0<shrinkOf l 0
      ·by_cases hl:shrinkOf l 0 < -x
       ·simp [h3,h2,h1,h0,hne,eJ,hl];omega
       ·simp [h3,h2,h1,h0,hne,eJ,hl];omega
      ·simp [h3,h2,h1,h0,noGlue]
  ·have:x=0:=by omega
   subst this
   simp [noGlue]
theorem Bz:∀ (xs:List (Nat×Int)),leastLast xs=none↔xs=[]
 | []=>by simp [leastLast]
 | x::r=>by
  simp only [leastLast,reduceCtorEq,iff_false]
  split
  ·split<;>simp
  ·simp
theorem iJ:∀ (xs:List (Nat×Int)) (y:Nat×Int),leastLast (xs++[y])=(match leastLast xs with
 | none=>some y
 | some x=>if y.2<=x.2 then some y else some x)
 | [],y=>rfl
 | x::r,y=>by
  rw [List.cons_append]
  simp only [leastLast]
  rw [iJ r y]
  cases h:leastLast r with
  | none=>rfl
  | some z =>
   simp only
   by_cases h1:y.2<=z.2
   ·rw [if_pos h1]
    by_cases h2:z.2<=x.2
    ·simp only [if_pos h2,if_pos h1];rw [if_pos (by omega)]
    ·simp only [if_neg h2]
   ·rw [if_neg h1]
    by_cases h2:z.2<=x.2
    ·simp only [if_pos h2,if_neg h1]
    ·simp only [if_neg h2]
     rw [if_neg (by omega)]
theorem p8:∀ {xs:List (Nat×Int)} {x:Nat×Int},leastLast xs=some x->x∈xs
 | [],x,h=>by simp [leastLast] at h
 | y::r,x,h=>by
  simp only [leastLast] at h
  split at h
  ·rename_i z hz
   split at h
   ·cases h;exact mem_cons_of_mem _ (p8 hz)
   ·cases h;simp
  ·cases h;simp
theorem sN{cost:Nat->Option Int}{forced:Nat->Bool}:∀ {bs:List Nat} {x:Nat×Int},x∈lookedAt cost forced bs->x.1∈bs
 | [],x,h=>by simp [lookedAt] at h
 | i::r,x,h=>by
  simp only [lookedAt] at h
  split at h
  ·simp at h
  ·rcases mem_cons.mp h with rfl|h
   ·simp
   ·split at h
    ·simp at h
    ·exact mem_cons_of_mem _ (sN h)
def gW(l:List Thing)(i:Nat):List Nat:=(List.range' i (l.length - i)).filter (isBreak l)++[l.length]
theorem DI(l:List Thing):gW l 0=cutBreaks l:=by
 unfold gW cutBreaks
 rw [Nat.sub_zero,List.range_eq_range']
theorem Fh(l:List Thing):gW l l.length=[l.length]:=by
 unfold gW
 rw [Nat.sub_self];rfl
theorem m8{l:List Thing}{i:Nat}(h:i<l.length):gW l i=if isBreak l i=true then i::gW l (i+1) else gW l (i+1):=by
 unfold gW
 obtain ⟨k,hk⟩:∃ k,l.length - i=k+1:=⟨l.length - i - 1,by omega⟩
 have hk2:l.length - (i+1)=k:=by omega
 rw [hk,hk2,List.range'_succ,List.filter_cons]
 split<;>rfl
def lO(v most:Int)(l:List Thing):List (Nat×Int):=lookedAt (costAt v most l) (isForced l) (cutBreaks l)
def cZ(v most:Int)(l:List Thing)(i:Nat):List (Nat×Int):=lookedAt (costAt v most l) (isForced l) (gW l i)
theorem DL(v most:Int)(l:List Thing):cZ v most l 0=lO v most l:=by unfold cZ lO;rw [DI]
theorem DX{v most:Int}{l:List Thing}{i:Nat}(h:i<l.length)(hb:isBreak l i=false):cZ v most l i=cZ v most l (i+1):=by
 unfold cZ;rw [m8 h,if_neg (by rw [hb];decide)]
theorem DM{v most:Int}{l:List Thing}{i:Nat}(h:i<l.length)(hb:isBreak l i=true)(hc:costAt v most l i=none):cZ v most l i=[]:=by
 unfold cZ;rw [m8 h,if_pos hb];simp only [lookedAt,hc]
theorem G5{v most:Int}{l:List Thing}{i:Nat}{c:Int}(h:i<l.length)(hb:isBreak l i=true)(hc:costAt v most l i=some c) :
 cZ v most l i=(i,c)::if isForced l i=true then [] else cZ v most l (i+1):=by
 unfold cZ;rw [m8 h,if_pos hb];simp only [lookedAt,hc]
theorem E9{v most:Int}{l:List Thing}:cZ v most l l.length=match costAt v most l l.length with|none=>[]|some c=>[(l.length,c)]:=by
 unfold cZ
 rw [Fh]
 simp only [lookedAt]
 cases costAt v most l l.length with
 | none=>rfl
 | some c=>simp
def fN:Option (Nat×Int)->Int
 | some x=>(x.1:Int)
 | none=>-1
def lX:Option (Nat×Int)->Int
 | some x=>x.2
 | none=>0
def uQ(v most:Int)(l:List Thing):Int:=fN (leastLast (lO v most l))
theorem wX:∀ l:List Thing,(SbPack.begun l).any holds=l.any holds
 | []=>rfl
 | t::r=>by
  simp only [SbPack.begun]
  by_cases h:holds t=true
  ·rw [if_pos h]
  ·rw [if_neg h]
   have h':holds t=false:=by simpa using h
   by_cases d:dropped t=true
   ·rw [if_pos d,wX r,List.any_cons,h'];rfl
   ·rw [if_neg d,List.any_cons,List.any_cons,wX r]
theorem FQ:∀ l:List Thing,SbPack.begun l=(l.take (l.findIdx holds)).filter (fun t=>!dropped t)++l.drop (l.findIdx holds)
 | []=>rfl
 | t::r=>by
  simp only [SbPack.begun]
  rw [List.findIdx_cons]
  by_cases h:holds t=true
  ·simp [h]
  ·have h':holds t=false:=by simpa using h
   rw [if_neg h,h']
   simp only [cond_false,List.take_succ_cons,List.drop_succ_cons]
   by_cases d:dropped t=true
   ·rw [if_pos d,FQ r,List.filter_cons_of_neg (by simp [d])]
   ·rw [if_neg d,FQ r,List.filter_cons_of_pos (by simpa using d)];rfl
def cV(t:Thing):Bool:=(solid t).isSome
def above(g:Glue)(t:Thing):Thing:=.glue ⟨max 0 (g.size - ((solid t).map (·.1)).getD 0),g.stretch,g.so,g.shrink,g.sho⟩
theorem Hw(g:Glue):∀ l:List Thing,topped g l=if l.findIdx cV=l.length then l else l.take (l.findIdx cV)++above g (l.getD (l.findIdx cV) (.kern 0))::l.drop (l.findIdx cV)
 | []=>rfl
 | t::r=>by
  simp only [topped]
  rw [List.findIdx_cons]
  cases h:solid t with
  | none =>
   have h':cV t=false:=by simp [cV,h]
   rw [h']
   simp only [cond_false,length_cons,Nat.add_right_cancel_iff,List.take_succ_cons,List.drop_succ_cons,List.getD_cons_succ]
   rw [Hw g r]
   split<;>rfl
  | some x =>
   have h':cV t=true:=by simp [cV,h]
   rw [h']
   simp [above,h]
def eC(g:Glue)(l:List Thing):List Thing:=if l.any holds=true then topped g (SbPack.begun l) else []
theorem Lz{g:Glue}{l:List Thing}:(topped g l).isEmpty=l.isEmpty:=by
 cases l with
 | nil=>rfl
 | cons t r=>simp only [topped];cases solid t<;>rfl
theorem NF{g:Glue}{l:List Thing}(h:l.any holds=true):(topped g (SbPack.begun l)).isEmpty=false:=by
 rw [Lz]
 rw [<-wX] at h
 cases q:SbPack.begun l with
 | nil=>rw [q] at h;cases h
 | cons _ _=>rfl
theorem DJ{l:List Thing}{i:Nat}(h:isBreak l i=true):∃ t,l[i]?=some t/\dropped t=true:=by
 unfold isBreak at h
 split at h
 ·rename_i k e;exact ⟨_,e,rfl⟩
 ·rename_i k e;exact ⟨_,e,rfl⟩
 ·rename_i t _ _ e
  refine ⟨_,e,?_⟩
  rw [Bool.and_eq_true] at h
  cases t<;>first|rfl|(simp [isGlue] at h)
 ·cases h
def CC(v most:Int)(g:Glue)(l:List Thing):Option (List Thing×Int×List Thing):=match leastLast (lO v most l) with
 | none=>none
 | some x=>if (eC g (l.drop (x.1+1))).isEmpty=true\/(l.take x.1).any holds=false then none else some (l.take x.1,penaltyAt l x.1,eC g (l.drop (x.1+1)))
theorem Pu(v most:Int)(g:Glue)(l:List Thing):CC v most g l=if cutFull v most l=false/\(cut v most g l).upper.any holds=true/\(cut v most g l).rest.isEmpty=false then some ((cut v most g l).upper,(cut v most g l).penalty,(cut v most g l).rest) else none:=by
 unfold CC
 have hfull:cutFull v most l=(lO v most l).isEmpty:=rfl
 cases h:leastLast (lO v most l) with
 | none =>
  have:=(Bz _).mp h
  rw [hfull,this];simp
 | some x =>
  have hne:(lO v most l).isEmpty=false:=by
   cases q:lO v most l with
   | nil=>rw [q] at h;cases h
   | cons _ _=>rfl
  have hm:=sN (p8 h)
  have hi:x.1<=l.length/\(x.1<l.length->isBreak l x.1=true):=by
   unfold cutBreaks at hm
   rw [mem_append,List.mem_filter,List.mem_range,List.mem_singleton] at hm
   rcases hm with ⟨h1,h2⟩|h1
   ·exact ⟨by omega,fun _=>h2⟩
   ·exact ⟨by omega,fun h=>by omega⟩
  have hca:cutAt v most l=x.1:=by
   unfold cutAt
   have:leastLast (lookedAt (costAt v most l) (isForced l) (cutBreaks l))=some x:=h
   rw [this]
  have hd:(l.drop (if x.1<l.length/\dropped (l.getD x.1 (.kern 0))=true then x.1+1 else x.1))=l.drop (x.1+1):=by
   by_cases hlt:x.1<l.length
   ·obtain ⟨t,e,d⟩:=DJ (hi.2 hlt)
    have:l.getD x.1 (.kern 0)=t:=by rw [getD_eq_getElem?_getD,e];rfl
    rw [this,if_pos ⟨hlt,d⟩]
   ·rw [if_neg (fun q=>hlt q.1),List.drop_of_length_le (by omega),List.drop_of_length_le (by omega)]
  have hcut:cut v most g l=if (l.drop (x.1+1)).any holds=true then ⟨l.take x.1,topped g (SbPack.begun (l.drop (x.1+1))),penaltyAt l x.1⟩ else ⟨l.take x.1++SbPack.begun (l.drop (x.1+1)),[],penaltyAt l x.1⟩:=by
   unfold cut
   simp only [hca,hd,wX]
  rw [hcut,hfull,hne]
  simp only
  by_cases ha:(l.drop (x.1+1)).any holds=true
  ·rw [if_pos ha]
   have hr:eC g (l.drop (x.1+1))=topped g (SbPack.begun (l.drop (x.1+1))):=by unfold eC;rw [if_pos ha]
   rw [hr,NF ha]
   by_cases hu:(l.take x.1).any holds=true
   ·rw [if_neg (by simp [hu]),if_pos ⟨trivial,hu,rfl⟩]
   ·have hu':(l.take x.1).any holds=false:=by simpa using hu
    rw [if_pos (.inr hu'),if_neg (by simp [hu'])]
  ·rw [if_neg ha]
   have hr:eC g (l.drop (x.1+1))=[]:=by unfold eC;rw [if_neg ha]
   rw [hr];simp
structure Pg(s:Style)(l:List Thing)(i:Nat)(p:Sofar):Prop where
 st:p.stretch.length=4
 last:p.begun=true->∃ j,i=j+1/\p.last=l[j]?
 marks:marksOf p.things=marksOf (l.take i)
 nodup:(p.classes.map (·.cls)).Nodup
theorem cG(a b:List Thing):marksOf (a++b)=marksOf a++marksOf b:=by simp [marksOf]
theorem uZ{p:Sofar}{x:OnPage}(h:(p.classes.map (·.cls)).Nodup):((setClass p x).classes.map (·.cls)).Nodup:=by
 unfold setClass
 simp only [map_append,map_cons,List.map_nil]
 rw [List.nodup_append]
 refine ⟨h.sublist (List.Sublist.map _ List.filter_sublist),by simp,?_⟩
 intro a ha b hb
 simp only [mem_map,List.mem_filter] at ha
 obtain ⟨y,⟨_,hy⟩,rfl⟩:=ha
 simp only [List.mem_singleton] at hb
 subst hb
 simpa using hy
def a7(p:Sofar)(c:Nat):OnPage:=(classOn p c).getD ⟨c,[],0,false⟩
def aT(s:Style)(p:Sofar)(c:Nat):Sofar:=if (a7 p c).things.isEmpty=true then { addGlue p (classOf s c).skip with goal:=p.goal - (classOf s c).skip.size } else p
def eK(s:Style)(p:Sofar)(c:Nat):Int:=if 0<(classOf s c).factor then min ((classOf s c).most - (a7 p c).high) (((aT s p c).goal - (aT s p c).sum - (aT s p c).depth)*1000 / (classOf s c).factor) else (classOf s c).most - (a7 p c).high
def cK(s:Style)(p:Sofar)(c:Nat)(l:List Thing)(closed:Bool):Sofar :=
 setClass { aT s p c with goal:=(aT s p c).goal - counted (classOf s c).factor (tall l) } { a7 p c with things:=(a7 p c).things++l,high:=(a7 p c).high+tall l,closed:=closed }
def i6(s:Style)(p:Sofar)(c:Nat)(l:List Thing):Prop :=
 (a7 p c).closed=false/\(a7 p c).high+tall l<=(classOf s c).most/\(aT s p c).sum+(aT s p c).depth+counted (classOf s c).factor (tall l)<=(aT s p c).goal
instance (s:Style)(p:Sofar)(c:Nat)(l:List Thing):Decidable (i6 s p c l):=by unfold i6;infer_instance
def qB(s:Style)(p:Sofar)(c:Nat)(l:List Thing)(top:Glue)(depth:Int):Option (List Thing×Int×List Thing) :=
 if (a7 p c).closed=false/\(classOf s c).late=false/\0<eK s p c then CC (eK s p c) depth top l else none
def iZ(s:Style)(p:Sofar)(c:Nat)(l:List Thing)(top:Glue)(depth cost:Int):Sofar :=
 if i6 s p c l then cK s p c l (a7 p c).closed
 else match qB s p c l top depth with
  | some x=>{ cK s p c x.1 true with waiting:=p.waiting++[.insert c top depth cost x.2.2],extra:=p.extra+x.2.1 }
  | none=>if isBare p=true/\(a7 p c).closed=false then cK s p c l true
   else setClass { p with waiting:=p.waiting++[.insert c top depth cost l],extra:=p.extra+cost } { a7 p c with closed:=true }
theorem dZ(s:Style)(p:Sofar)(c:Nat):(aT s p c).waiting=p.waiting/\(aT s p c).extra=p.extra/\(aT s p c).things=p.things/\(aT s p c).classes=p.classes/\(aT s p c).stretch.length=p.stretch.length/\(aT s p c).sum=p.sum/\(aT s p c).depth=p.depth:=by
 unfold aT
 split
 ·exact ⟨rfl,rfl,rfl,rfl,by simp [addGlue],rfl,rfl⟩
 ·exact ⟨rfl,rfl,rfl,rfl,rfl,rfl,rfl⟩
theorem rH(s:Style)(p:Sofar)(c:Nat)(l:List Thing)(top:Glue)(depth cost:Int):insertThing s p c l top depth cost=iZ s p c l top depth cost:=by
 obtain ⟨k1,k2,k3,k4,k5,k6,k7⟩:=dZ s p c
 have e:insertThing s p c l top depth cost =
  if i6 s p c l then setClass { aT s p c with goal:=(aT s p c).goal - counted (classOf s c).factor (tall l) } { a7 p c with things:=(a7 p c).things++l,high:=(a7 p c).high+tall l }
  else if (a7 p c).closed=false/\(classOf s c).late=false/\0<eK s p c/\cutFull (eK s p c) depth l=false/\(cut (eK s p c) depth top l).upper.any holds=true/\(cut (eK s p c) depth top l).rest.isEmpty=false then
   setClass { aT s p c with goal:=(aT s p c).goal - counted (classOf s c).factor (tall (cut (eK s p c) depth top l).upper),waiting:=(aT s p c).waiting++[.insert c top depth cost (cut (eK s p c) depth top l).rest],extra:=(aT s p c).extra+(cut (eK s p c) depth top l).penalty } { a7 p c with things:=(a7 p c).things++(cut (eK s p c) depth top l).upper,high:=(a7 p c).high+tall (cut (eK s p c) depth top l).upper,closed:=true }
  else if isBare p=true/\(a7 p c).closed=false then
   setClass { aT s p c with goal:=(aT s p c).goal - counted (classOf s c).factor (tall l) } { a7 p c with things:=(a7 p c).things++l,high:=(a7 p c).high+tall l,closed:=true }
  else setClass { p with waiting:=p.waiting++[.insert c top depth cost l],extra:=p.extra+cost } { a7 p c with closed:=true }:=rfl
 rw [e]
 unfold iZ qB
 by_cases hf:i6 s p c l
 ·rw [if_pos hf,if_pos hf];rfl
 ·rw [if_neg hf,if_neg hf]
  by_cases ha:(a7 p c).closed=false/\(classOf s c).late=false/\0<eK s p c
  ·rw [if_pos ha,Pu]
   by_cases hb:cutFull (eK s p c) depth l=false/\(cut (eK s p c) depth top l).upper.any holds=true/\(cut (eK s p c) depth top l).rest.isEmpty=false
   ·rw [if_pos hb,if_pos ⟨ha.1,ha.2.1,ha.2.2,hb⟩,k1,k2];rfl
   ·rw [if_neg hb,if_neg (fun q=>hb q.2.2.2)];rfl
  ·rw [if_neg ha,if_neg (fun q=>ha ⟨q.1,q.2.1,q.2.2.1⟩)];rfl
theorem zZ{s:Style}{p:Sofar}{c:Nat}{body:List Thing}{top:Glue}{d k:Int}(h1:p.stretch.length=4)(h2:(p.classes.map (·.cls)).Nodup) :
 (insertThing s p c body top d k).stretch.length=4/\(insertThing s p c body top d k).things=p.things/\((insertThing s p c body top d k).classes.map (·.cls)).Nodup/\(insertThing s p c body top d k).begun=true:=by
 obtain ⟨k1,k2,k3,k4,k5,k6,k7⟩:=dZ s p c
 have po:∀ (l:List Thing) (b:Bool),(cK s p c l b).stretch.length=4/\(cK s p c l b).things=p.things/\((cK s p c l b).classes.map (·.cls)).Nodup/\(cK s p c l b).begun=true:=fun l b =>
  ⟨k5.trans h1,k3,uZ (by show ((aT s p c).classes.map (·.cls)).Nodup;rw [k4];exact h2),rfl⟩
 rw [rH]
 unfold iZ
 split
 ·exact po _ _
 ·split
  ·exact po _ _
  ·split
   ·exact po _ _
   ·exact ⟨h1,rfl,uZ h2,rfl⟩
theorem qF(p:Sofar)(t:Thing)(g:Glue):(glueThing p t g).stretch.length=p.stretch.length/\(glueThing p t g).things=p.things++[t]/\(glueThing p t g).classes=p.classes/\(glueThing p t g).begun=p.begun:=by
 refine ⟨?_,rfl,rfl,rfl⟩
 simp [glueThing,addGlue]
theorem j2{t:Thing}(h:∀ k,t≠.mark k):marksOf [t]=[]:=by
 cases t<;>first|rfl|exact absurd rfl (h _)
theorem OQ{s:Style}{p:Sofar}{t:Thing}(h1:p.stretch.length=4)(h2:(p.classes.map (·.cls)).Nodup) :
 (put1 s p t).stretch.length=4/\marksOf (put1 s p t).things=marksOf p.things++marksOf [t]/\((put1 s p t).classes.map (·.cls)).Nodup/\(put1 s p t).begun=(p.begun||holds t):=by
 have gl:∀ (u:Thing) (g:Glue),(∀ k,u≠.mark k)->holds u=false->t=u->(put1 s p t=if p.begun=true then glueThing p u g else p)->(put1 s p t).stretch.length=4/\marksOf (put1 s p t).things=marksOf p.things++marksOf [t]/\((put1 s p t).classes.map (·.cls)).Nodup/\(put1 s p t).begun=(p.begun||holds t):=fun u g hm hh ht e=>by
  rw [e,ht,hh,j2 hm]
  by_cases b:p.begun=true
  ·obtain ⟨e1,e2,e3,e4⟩:=qF p u g
   rw [if_pos b,e1,e2,e3,e4,cG,j2 hm]
   exact ⟨h1,rfl,h2,by simp⟩
  ·rw [if_neg b]
   exact ⟨h1,by simp,h2,by simp⟩
 have so:∀ (h d:Int),solid t=some (h,d)->(∀ k,t≠.mark k)->put1 s p t=solidThing s p t h d->(put1 s p t).stretch.length=4/\marksOf (put1 s p t).things=marksOf p.things++marksOf [t]/\((put1 s p t).classes.map (·.cls)).Nodup/\(put1 s p t).begun=(p.begun||holds t):=fun h d hs hm e=>by
  have hh:holds t=true:=by
   cases t<;>first|rfl|(simp [solid] at hs)
  rw [e,hh,j2 hm]
  unfold solidThing
  by_cases b:hasSolid p.things=true
  ·simp only [if_pos b]
   refine ⟨h1,?_,h2,by simp⟩
   rw [cG,j2 hm]
  ·simp only [if_neg b]
   refine ⟨(qF p (.glue { s.top with size:=max 0 (s.top.size - h) }) _).1.trans h1,?_,h2,by simp⟩
   rw [(qF p _ _).2.1,cG,cG,j2 hm]
   simp [marksOf]
 cases t with
 | glue g=>exact gl (.glue g) g (fun _ h=>nomatch h) rfl rfl rfl
 | leaders g how w=>exact gl (.leaders g how w) g (fun _ h=>nomatch h) rfl rfl rfl
 | kern k=>exact gl (.kern k) ⟨k,0,0,0,0⟩ (fun _ h=>nomatch h) rfl rfl rfl
 | penalty k =>
  have e:put1 s p (.penalty k)=if p.begun=true then { p with things:=p.things++[.penalty k] } else p:=rfl
  rw [e]
  by_cases b:p.begun=true
  ·rw [if_pos b];exact ⟨h1,by rw [cG],h2,by simp [b,holds,solid]⟩
  ·rw [if_neg b];exact ⟨h1,by simp [marksOf],h2,by simp [holds,solid]⟩
 | insert c g d k l =>
  have e:put1 s p (.insert c g d k l)=insertThing s p c l g d k:=rfl
  rw [e]
  obtain ⟨a1,a2,a3,a4⟩:=zZ (s:=s) (c:=c) (body:=l) (top:=g) (d:=d) (k:=k) h1 h2
  exact ⟨a1,by rw [a2];simp [marksOf],a3,by rw [a4];simp [holds]⟩
 | box c w h d st sh l=>exact so h d rfl (fun _ h=>nomatch h) rfl
 | rule w h d=>exact so (h.getD 0) (d.getD 0) rfl (fun _ h=>nomatch h) rfl
 | glyph n w h d =>
  have e:put1 s p (.glyph n w h d)={ p with things:=p.things++[.glyph n w h d] }:=rfl
  rw [e];exact ⟨h1,by rw [cG],h2,by simp [holds,solid]⟩
 | disc a b c =>
  have e:put1 s p (.disc a b c)={ p with things:=p.things++[.disc a b c] }:=rfl
  rw [e];exact ⟨h1,by rw [cG],h2,by simp [holds,solid]⟩
 | adjust l =>
  have e:put1 s p (.adjust l)={ p with things:=p.things++[.adjust l] }:=rfl
  rw [e];exact ⟨h1,by rw [cG],h2,by simp [holds,solid]⟩
 | mark c =>
  have e:put1 s p (.mark c)={ p with things:=p.things++[.mark c] }:=rfl
  rw [e];exact ⟨h1,by rw [cG],h2,by simp [holds,solid]⟩
 | anchor k =>
  have e:put1 s p (.anchor k)={ p with things:=p.things++[.anchor k] }:=rfl
  rw [e];exact ⟨h1,by rw [cG],h2,by simp [holds,solid]⟩
theorem GR{t:Thing}(h:holds t=true):dropped t=false:=by
 cases t<;>first|rfl|(simp [holds,solid] at h)
theorem QR{s:Style}{l:List Thing}{i:Nat}{p:Sofar}{t:Thing}(P:Pg s l i p)(ht:l[i]?=some t):Pg s l (i+1) (put s p t):=by
 obtain ⟨h1,h2,h3,h4⟩:=OQ (s:=s) (t:=t) P.st P.nodup
 refine ⟨h1,fun b=>⟨i,rfl,?_⟩,?_,h3⟩
 ·have b:(put1 s p t).begun=true:=b
  rw [h4,Bool.or_eq_true] at b
  show (if p.begun=true\/dropped t=false then some t else p.last)=l[i]?
  rw [ht,if_pos (b.imp id GR)]
 ·show marksOf (put1 s p t).things=_
  rw [h2,P.marks,<-cG,List.take_add_one,ht];rfl
theorem iY{s:Style}{l:List Thing}{i:Nat}{t:Thing}(ht:l[i]?=some t):sofarAt s l (i+1)=put s (sofarAt s l i) t:=by
 unfold sofarAt
 rw [List.take_add_one,ht,List.foldl_append];rfl
theorem kF(s:Style)(l:List Thing):∀ i,i<=l.length->Pg s l i (sofarAt s l i)
 | 0,_=>⟨rfl,(fun h=>nomatch h),rfl,by simp [sofarAt,fresh]⟩
 | i+1,h=>by
  obtain ⟨t,ht⟩:∃ t,l[i]?=some t:=⟨_,getElem?_eq_getElem (by omega)⟩
  rw [iY ht]
  exact QR (kF s l i (by omega)) ht
theorem tY{s:Style}{l:List Thing}{i:Nat}{p:Sofar}{t:Thing}(P:Pg s l i p)(ht:l[i]?=some t)(hb:p.begun=true) :
 breakNow p t l[i+1]?=some (isBreak l i)\/(breakNow p t l[i+1]?=none/\isBreak l i=false/\l[i+1]?=none):=by
 obtain ⟨j,rfl,hl⟩:=P.last hb
 have fin:∀ u:Thing,t=u->(∀ k,u≠.kern k)->(∀ k,u≠.penalty k)->breakNow p t l[j+1+1]?=some (isBreak l (j+1)):=fun u e h1 h2=>by
  have a:breakNow p t l[j+1+1]?=some (isGlue t&&(p.last.map fun (u:Thing)=>!dropped u).getD false):=by
   subst e
   cases t<;>first|rfl|exact absurd rfl (h1 _)|exact absurd rfl (h2 _)
  have b:isBreak l (j+1)=(isGlue t&&((l[j]?).map fun (u:Thing)=>!dropped u).getD false):=by
   subst e
   unfold isBreak
   rw [ht]
   cases t<;>first|rfl|exact absurd rfl (h1 _)|exact absurd rfl (h2 _)
  rw [a,b,hl]
 cases t with
 | kern k =>
  have b:isBreak l (j+1)=((l[j+1+1]?).map isGlue).getD false:=by unfold isBreak;rw [ht]
  rw [b]
  show (l[j+1+1]?).map isGlue=_\/_
  cases q:l[j+1+1]? with
  | none=>exact .inr ⟨by simp [breakNow],rfl,rfl⟩
  | some u=>exact .inl rfl
 | penalty k =>
  refine .inl ?_
  have b:isBreak l (j+1)=decide (k<NEVER):=by unfold isBreak;rw [ht]
  rw [b];rfl
 | _=>exact .inl (fin _ rfl (fun _ h=>nomatch h) (fun _ h=>nomatch h))
theorem Hz{l:List Thing}{i:Nat}{t:Thing}(ht:l[i]?=some t):l.drop i=t::l.drop (i+1):=by
 obtain ⟨h,e⟩:=List.getElem?_eq_some_iff.mp ht
 rw [List.drop_eq_getElem_cons h,e]
theorem Ni{l:List Thing}{i:Nat}:(l.drop i).head?=l[i]?:=by
 rw [List.head?_drop]
theorem IV{s:Style}{l:List Thing}{i:Nat}{p:Sofar}{t:Thing}{b:Best}(P:Pg s l i p)(ht:l[i]?=some t) :
 through s i p b (l.drop i)=if p.begun=true/\isBreak l i=true then
  (
   if (costNow p (penaltyOf t)).isNone=true\/penaltyOf t<=-NEVER then some (((better i (costNow p (penaltyOf t)) b).map fun (x:Nat×Option Int)=>x.1).getD i)
   else through s (i+1) (put s p t) (better i (costNow p (penaltyOf t)) b) (l.drop (i+1)))
  else through s (i+1) (put s p t) b (l.drop (i+1)):=by
 rw [Hz ht]
 simp only [through]
 by_cases hb:p.begun=true
 ·rw [if_neg (by rw [hb];decide),Ni]
  rcases tY P ht hb with e|⟨e,e2,e3⟩
  ·rw [e]
   by_cases q:isBreak l i=true
   ·rw [if_pos (c:=p.begun=true/\isBreak l i=true) ⟨hb,q⟩,q]
   ·have q':isBreak l i=false:=by simpa using q
    rw [if_neg (c:=p.begun=true/\isBreak l i=true) (fun z=>q z.2),q']
  ·rw [e,if_neg (c:=p.begun=true/\isBreak l i=true) (by rw [e2];simp)]
   have:l.drop (i+1)=[]:=List.drop_of_length_le (List.getElem?_eq_none_iff.mp e3)
   rw [this]
   simp [through]
 ·have hb':p.begun=false:=by simpa using hb
  rw [if_pos hb',if_neg (fun q=>hb q.1)]
theorem K8{s:Style}{l:List Thing}{i:Nat}{p:Sofar}{b:Best}(h:l.length<=i):through s i p b (l.drop i)=none:=by
 rw [List.drop_of_length_le h];simp [through]
theorem EB{s:Style}{l:List Thing}{i:Nat}{p:Sofar}{t:Thing}(P:Pg s l i p)(ht:l[i]?=some t) :
 (p.begun=true/\breakNow p t l[i+1]?=some true)↔(p.begun=true/\isBreak l i=true):=by
 constructor
 ·rintro ⟨h1,h2⟩
  rcases tY P ht h1 with e|⟨e,_,_⟩
  ·rw [e] at h2;exact ⟨h1,Option.some.inj h2⟩
  ·rw [e] at h2;cases h2
 ·rintro ⟨h1,h2⟩
  rcases tY P ht h1 with e|⟨_,e,_⟩
  ·rw [e,h2];exact ⟨h1,rfl⟩
  ·rw [e] at h2;cases h2
def MD(p:Sofar)(penalty:Int):Option Int:=match dG (p.goal - p.sum) p.stretch [p.shrink,0,0,0] with
 | none=>none
 | some b=>if penalty<=-NEVER then some penalty else if NEVER<=p.extra then none else if b=WORST then some VERYBAD else some (b+penalty+p.extra)
theorem KG{p:Sofar}(h:p.stretch.length=4)(penalty:Int):MD p penalty=costNow p penalty:=by
 unfold MD costNow
 rw [<-OL h]
 cases fitBy p.stretch p.shrink (p.goal - p.sum)<;>rfl
theorem Kq(i:Nat)(c:Int)(b:Option (Nat×Int)):better i (some c) (b.map fun x=>(x.1,some x.2))=(match b with|none=>some (i,c)|some x=>if c<=x.2 then some (i,c) else some x:Option (Nat×Int)).map fun x=>(x.1,some x.2):=by
 cases b with
 | none=>rfl
 | some x =>
  simp only [better,Option.map_some,notAbove,decide_eq_true_eq]
  by_cases h:c<=x.2
  ·rw [if_pos h,if_pos h];rfl
  ·rw [if_neg h,if_neg h];rfl
theorem K7(i:Nat)(b:Option (Nat×Int)):((better i none (b.map fun x=>(x.1,some x.2))).map fun (x:Nat×Option Int)=>x.1).getD i=match b with|none=>i|some x=>x.1:=by
 cases b with
 | none=>rfl
 | some x=>simp [better,notAbove]
def uT(l:List (Nat×List Thing)):Prop:=l.Pairwise fun a b=>a.1<b.1
theorem mZ{x y:Nat×List Thing}:∀ {l:List (Nat×List Thing)},y∈insertClass x l↔y=x\/y∈l
 | []=>by simp [insertClass]
 | z::r=>by
  simp only [insertClass]
  split
  ·simp
  ·simp only [mem_cons,mZ (l:=r)]
   constructor
   ·rintro (h|h|h)<;>simp [h]
   ·rintro (h|h|h)<;>simp [h]
theorem oS{x:Nat×List Thing}:∀ {l:List (Nat×List Thing)},uT l->(∀ y∈l,y.1≠x.1)->uT (insertClass x l)
 | [],_,_=>by simp [insertClass,uT]
 | z::r,h,hn=>by
  simp only [insertClass]
  have h':=List.pairwise_cons.mp h
  have hz:=hn z (by simp)
  split
  ·rename_i hlt
   refine List.pairwise_cons.mpr ⟨fun y hy=>?_,h⟩
   rcases mem_cons.mp hy with rfl|hy
   ·exact hlt
   ·have:=h'.1 y hy;omega
  ·refine List.pairwise_cons.mpr ⟨fun y hy=>?_,oS h'.2 fun y hy=>hn y (by simp [hy])⟩
   rcases mZ.mp hy with rfl|hy
   ·omega
   ·exact h'.1 y hy
theorem mE:∀ {l:List (Nat×List Thing)},(l.map (·.1)).Nodup->uT (l.foldr insertClass [])/\∀ y,y∈l.foldr insertClass []↔y∈l
 | [],_=>⟨by simp [uT],by simp⟩
 | x::r,h=>by
  rw [map_cons,List.nodup_cons] at h
  obtain ⟨a,b⟩:=mE h.2
  rw [List.foldr_cons]
  refine ⟨oS a fun y hy e=>?_,fun y=>?_⟩
  ·exact h.1 (mem_map.mpr ⟨y,(b y).mp hy,e⟩)
  ·rw [mZ,b,mem_cons]
theorem Fc:∀ {a b:List (Nat×List Thing)},uT a->uT b->(∀ y,y∈a↔y∈b)->a=b
 | [],[],_,_,_=>rfl
 | [],y::_,_,_,h=>by have:=(h y).mpr (by simp);cases this
 | x::_,[],_,_,h=>by have:=(h x).mp (by simp);cases this
 | x::a,y::b,ha,hb,h=>by
  have ha':=List.pairwise_cons.mp ha
  have hb':=List.pairwise_cons.mp hb
  have e:x=y:=by
   rcases mem_cons.mp ((h x).mp (by simp)) with e|e
   ·exact e
   ·rcases mem_cons.mp ((h y).mpr (by simp)) with e2|e2
    ·exact e2.symm
    ·have h1:=ha'.1 y e2
     have h2:=hb'.1 x e
     omega
  subst e
  congr 1
  refine Fc ha'.2 hb'.2 fun z=>?_
  constructor
  ·intro hz
   rcases mem_cons.mp ((h z).mp (by simp [hz])) with e|e
   ·subst e;have:=ha'.1 z hz;omega
   ·exact e
  ·intro hz
   rcases mem_cons.mp ((h z).mpr (by simp [hz])) with e|e
   ·subst e;have:=hb'.1 z hz;omega
   ·exact e
end Cp
namespace Cp
open SbThing SbPack SgPage SgSpec
abbrev shape:=PyWqasax.shape
theorem r0{f:Nat}{p:Int}{r:List Int}{cs:List (List (List Int))}(h:PyFlat.calls shape f (p::r)=some cs) :
 ∃ c t cs' f',cs=c::cs'/\PyFlat.call shape (p::r)=some (c,t)/\PyFlat.calls shape f' t=some cs':=by
 cases f with
 | zero=>simp [PyFlat.calls] at h
 | succ f =>
  simp only [PyFlat.calls] at h
  split at h
  ·cases h
  ·rename_i c t hc
   split at h
   ·cases h
   ·rename_i cs' hcs
    cases h
    exact ⟨c,t,cs',f,rfl,hc,hcs⟩
theorem Ot{r x t:List Int}(h:PyFlat.row r=some (x,t)):r=(x.length:Int)::(x++t):=by
 cases r with
 | nil=>simp [PyFlat.row] at h
 | cons n r =>
  simp only [PyFlat.row] at h
  split at h
  ·rename_i hn
   cases h
   rw [length_take,Nat.min_eq_left hn.2,Int.toNat_of_nonneg hn.1,List.take_append_drop]
  ·cases h
theorem kD{r:List Int}{xs:List (List Int)}{t:List Int}(h:PyFlat.rows 0 r=some (xs,t)):xs=[]/\t=r:=by
 simp only [PyFlat.rows,Option.some.injEq,Prod.mk.injEq] at h
 exact ⟨h.1.symm,h.2.symm⟩
theorem Bh{r:List Int}{xs:List (List Int)}{t:List Int}(h:PyFlat.rows 1 r=some (xs,t)):∃ x,xs=[x]/\r=(x.length:Int)::(x++t):=by
 simp only [PyFlat.rows] at h
 split at h
 ·cases h
 ·rename_i x s hx
  cases h
  exact ⟨x,rfl,Ot hx⟩
theorem Nd{p:Int}{r:List Int}{c:List (List Int)}{t:List Int}(h:PyFlat.call shape (p::r)=some (c,t)) :
 ∃ n k xs,shape p=some (n,k)/\n<=r.length/\PyFlat.rows k (r.drop n)=some (xs,t)/\c=(p::r.take n)::xs:=by
 simp only [PyFlat.call] at h
 split at h
 ·cases h
 ·rename_i n k hs
  split at h
  ·cases h
  ·rename_i hl
   split at h
   ·cases h
   ·rename_i xs t' hr
    cases h
    exact ⟨n,k,xs,hs,by omega,hr,rfl⟩
inductive Ct:Int->List Int->List (List Int)->List Int->Prop where
 | style (a b:Int) (x t:List Int):Ct 0 (a::b::(x.length:Int)::(x++t)) [[0,a,b],x] t
 | cls (a b c d:Int) (x t:List Int):Ct 1 (a::b::c::d::(x.length:Int)::(x++t)) [[1,a,b,c,d],x] t
 | put (x t:List Int):Ct 2 ((x.length:Int)::(x++t)) [[2],x] t
 | left (x t:List Int):Ct 3 ((x.length:Int)::(x++t)) [[3],x] t
 | bare (p:Int) (t:List Int) (h:p=4\/p=5\/p=7\/p=8\/p=9\/p=10):Ct p t [[p]] t
 | one (p a:Int) (t:List Int) (h:p=6\/p=11):Ct p (a::t) [[p,a]] t
theorem CD{p:Int}{r:List Int}{c:List (List Int)}{t:List Int}(h:PyFlat.call shape (p::r)=some (c,t)):Ct p r c t:=by
 obtain ⟨n,k,xs,hs,hl,hr,rfl⟩:=Nd h
 have hp:p=0\/p=1\/p=2\/p=3\/p=4\/p=5\/p=6\/p=7\/p=8\/p=9\/p=10\/p=11:=by
  refine Decidable.byContradiction fun hn=>?_
  have e:PyWqasax.shape p=none:=by
   unfold PyWqasax.shape
   rw [if_neg (by omega),if_neg (by omega),if_neg (by omega),if_neg (by omega),if_neg (by omega),if_neg (by omega),if_neg (by omega),if_neg (by omega),if_neg (by omega),if_neg (by omega),if_neg (by omega),if_neg (by omega)]
  have hs:PyWqasax.shape p=some (n,k):=hs
  rw [e] at hs
  cases hs
 rcases hp with rfl|rfl|rfl|rfl|rfl|rfl|rfl|rfl|rfl|rfl|rfl|rfl<;>cases hs
 ·match r,hl with
  | a::b::r,_ =>
   obtain ⟨x,rfl,e⟩:=Bh hr
   have e:r=_:=e
   subst e
   exact .style a b x t
 ·match r,hl with
  | a::b::c::d::r,_ =>
   obtain ⟨x,rfl,e⟩:=Bh hr
   have e:r=_:=e
   subst e
   exact .cls a b c d x t
 ·obtain ⟨x,rfl,e⟩:=Bh hr
  have e:r=_:=e
  subst e
  exact .put x t
 ·obtain ⟨x,rfl,e⟩:=Bh hr
  have e:r=_:=e
  subst e
  exact .left x t
 ·obtain ⟨rfl,e⟩:=kD hr
  have e:t=r:=e
  subst e
  exact .bare 4 t (by simp)
 ·obtain ⟨rfl,e⟩:=kD hr
  have e:t=r:=e
  subst e
  exact .bare 5 t (by simp)
 ·match r,hl with
  | a::r,_ =>
   obtain ⟨rfl,e⟩:=kD hr
   have e:t=r:=e
   subst e
   exact .one 6 a t (by simp)
 ·obtain ⟨rfl,e⟩:=kD hr
  have e:t=r:=e
  subst e
  exact .bare 7 t (by simp)
 ·obtain ⟨rfl,e⟩:=kD hr
  have e:t=r:=e
  subst e
  exact .bare 8 t (by simp)
 ·obtain ⟨rfl,e⟩:=kD hr
  have e:t=r:=e
  subst e
  exact .bare 9 t (by simp)
 ·obtain ⟨rfl,e⟩:=kD hr
  have e:t=r:=e
  subst e
  exact .bare 10 t (by simp)
 ·match r,hl with
  | a::r,_ =>
   obtain ⟨rfl,e⟩:=kD hr
   have e:t=r:=e
   subst e
   exact .one 11 a t (by simp)
theorem LF{p:Int}{r:List Int}{c:List (List Int)}{t:List Int}(h:Ct p r c t):PyWqasax.whole c=c:=by
 cases h with
 | style=>rfl
 | cls=>rfl
 | put=>rfl
 | left=>rfl
 | bare p t h=>rcases h with rfl|rfl|rfl|rfl|rfl|rfl<;>rfl
 | one p a t h=>rcases h with rfl|rfl<;>rfl
theorem Om{cs:List (List (List Int))}:∀ {f:Nat} {l:List Int},PyFlat.calls shape f l=some cs->cs.map PyWqasax.whole=cs:=by
 induction cs with
 | nil=>exact fun _=>rfl
 | cons c0 cs ih =>
  intro f l h
  cases l with
  | nil=>cases f<;>cases h
  | cons p r =>
   obtain ⟨c,t,cs',f',e,h1,h2⟩:=r0 h
   cases e
   rw [map_cons,LF (CD h1),ih h2]
theorem Dd{l:List Int}(h:PyWqasax.answers_asked l=true):∃ cs,PyFlat.calls shape l.length l=some cs/\cs.length<=40/\(∀ c∈cs,SgNeutral.asked1 c=true)/\PyWqasax.answers l=PyFlat.told (PyFlat.played SgNeutral.step SgNeutral.start cs):=by
 unfold PyWqasax.answers_asked at h
 have e:PyWqasax.calls l=match PyFlat.calls shape l.length l with|none=>none|some cs=>some (cs.map PyWqasax.whole):=rfl
 cases q:PyFlat.calls shape l.length l with
 | none=>rw [e,q] at h;cases h
 | some cs =>
  have w:cs.map PyWqasax.whole=cs:=Om q
  have e2:PyWqasax.calls l=some cs:=by
   rw [e,q]
   exact congrArg some w
  rw [e2] at h
  simp only [PyFlat.atMost,SgNeutral.asked,Bool.and_eq_true,decide_eq_true_eq,all_eq_true] at h
  exact ⟨cs,rfl,h.1,h.2.1.1.1,by unfold PyWqasax.answers;rw [e2]⟩
def gA(l:List Thing):Nat:=(l.flatMap (nums 9)).length
theorem My:gA []=0:=rfl
theorem lY(t:Thing)(l:List Thing):gA (t::l)=(nums 9 t).length+gA l:=by simp [gA]
theorem eT(a b:List Thing):gA (a++b)=gA a+gA b:=by simp [gA]
theorem nR(t:Thing):gA [t]=(nums 9 t).length:=by simp [gA]
theorem kJ{a b:List Thing}(h:a.Sublist b):gA a<=gA b:=by
 induction h with
 | slnil=>exact Nat.le_refl _
 | cons t _ ih=>rw [lY];omega
 | cons_cons t _ ih=>rw [lY,lY];omega
theorem nX{l:List Thing}(h:l.all (fits 9)=true):l.length<=gA l:=by
 induction l with
 | nil=>exact Nat.le_refl _
 | cons t r ih =>
  rw [all_cons,Bool.and_eq_true] at h
  have:=ih h.2
  have:=J_ h.1
  rw [lY,length_cons];omega
theorem oA{l:List Thing}(h:l.all (fits 8)=true):l.all (fits 9)=true:=t9 (fun t ht=>(gJ 8 t ht).1) h
theorem c8{n:Nat}{l:List Thing}(h:l.all (right n)=true):l.all (fits n)=true:=t9 (fT n) h
theorem lZ{c:Nat}{g:Glue}{d k:Int}{l:List Thing}(h:l.all (fits 8)=true):(nums 9 (.insert c g d k l)).length=10+gA l:=by
 have e:nums 9 (.insert c g d k l)=[10,(c:Int)]++(glueNums g++([d,k]++listNums (nums 8) l)):=rfl
 have e2:listNums (nums 8) l=listNums (nums 9) l:=gE h fun t ht=>(gJ 8 t ht).2.symm
 rw [e,e2]
 simp only [length_append,length_cons,List.length_nil,glueNums,listNums,gA]
 omega
theorem Ie(g:Glue):(nums 9 (.glue g)).length=6:=rfl
theorem wU:∀ l:List Thing,(SbPack.begun l).Sublist l
 | []=>.slnil
 | t::r=>by
  simp only [SbPack.begun]
  split
  ·exact List.Sublist.refl _
  ·split
   ·exact (wU r).cons _
   ·exact (wU r).cons_cons _
theorem Fm(g:Glue):∀ l:List Thing,gA (topped g l)<=gA l+6
 | []=>by simp [topped]
 | t::r=>by
  simp only [topped]
  split
  ·rw [lY,Ie];omega
  ·rw [lY,lY];have:=Fm g r;omega
theorem EG{p:Thing->Bool}(g:Glue)(hg:∀ g,p (.glue g)=true):∀ {l:List Thing},l.all p=true->(topped g l).all p=true
 | [],h=>h
 | t::r,h=>by
  simp only [topped]
  rw [all_cons,Bool.and_eq_true] at h
  split
  ·rw [all_cons,all_cons,hg,h.1,h.2];rfl
  ·rw [all_cons,h.1,EG g hg h.2];rfl
theorem D6{p:Thing->Bool}{a b:List Thing}(h:a.Sublist b)(x:b.all p=true):a.all p=true:=by
 rw [all_eq_true] at x ⊢
 exact fun t ht=>x t (h.subset ht)
theorem Ew(g:Glue)(l:List Thing):gA (eC g l)<=gA l+6:=by
 unfold eC
 split
 ·have:=Fm g (SbPack.begun l)
  have:=kJ (wU l)
  omega
 ·rw [My];omega
theorem En{p:Thing->Bool}{g:Glue}{l:List Thing}(hg:∀ g,p (.glue g)=true)(h:l.all p=true):(eC g l).all p=true:=by
 unfold eC
 split
 ·exact EG g hg (D6 (wU l) h)
 ·rfl
theorem EJ{v most:Int}{g:Glue}{l:List Thing}{x:List Thing×Int×List Thing}(h:CC v most g l=some x):∃ i,x=(l.take i,penaltyAt l i,eC g (l.drop (i+1))):=by
 unfold CC at h
 split at h
 ·cases h
 ·rename_i y _
  split at h
  ·cases h
  ·cases h;exact ⟨y.1,rfl⟩
def Le(x:Int)(b:Int):Prop:=-b<=x/\x<=b
theorem iN{x:Int}(h:isLen x=true):Le x 1073741823:=by
 rw [dO] at h;unfold FAR at h;exact h
structure OW(t:Thing):Prop where
 col:Le (inColumn t) 2147483646
 sol:∀ h d,solid t=some (h,d)->Le h 1073741823/\Le d 1073741823
 glu:∀ g,glueOf t=some g->Le g.size 1073741823/\Le g.stretch 1073741823/\Le g.shrink 1073741823/\g.so<=3/\g.sho<=3
theorem lB{g:Glue}(h:glueOk g=true):Le g.size 1073741823/\Le g.stretch 1073741823/\Le g.shrink 1073741823/\g.so<=3/\g.sho<=3:=by
 simp only [glueOk,Bool.and_eq_true,decide_eq_true_eq] at h
 exact ⟨iN h.1,iN h.2.1,iN h.2.2.2.1,h.2.2.1,h.2.2.2.2⟩
theorem J3{o:Option Int}(h:optOk o=true):Le (o.getD 0) 1073741823:=by
 cases o with
 | none=>exact ⟨by decide,by decide⟩
 | some x=>exact iN h
theorem pJ{n:Nat}{t:Thing}(h:right n t=true):OW t:=by
 have z:Le 0 2147483646:=⟨by decide,by decide⟩
 cases t with
 | glyph a b c d=>exact ⟨z,(fun _ _ e=>nomatch e),(fun _ e=>nomatch e)⟩
 | kern k =>
  have h:isLen k=true:=by cases n<;>exact h
  have:=iN h
  exact ⟨⟨by show _<=k;have:=this.1;omega,by show k<=_;have:=this.2;omega⟩,(fun _ _ e=>nomatch e),(fun _ e=>nomatch e)⟩
 | glue g =>
  have h:glueOk g=true:=by cases n<;>exact h
  have:=lB h
  exact ⟨⟨by show _<=g.size;have:=this.1.1;omega,by show g.size<=_;have:=this.1.2;omega⟩,(fun _ _ e=>nomatch e),(fun _ e=>by cases e;exact this)⟩
 | leaders g how w =>
  have h:glueOk g=true:=by
   cases n with
   | zero=>cases h
   | succ n=>simp only [right,Bool.and_eq_true] at h;exact h.1
  have:=lB h
  exact ⟨⟨by show _<=g.size;have:=this.1.1;omega,by show g.size<=_;have:=this.1.2;omega⟩,(fun _ _ e=>nomatch e),(fun _ e=>by cases e;exact this)⟩
 | penalty k=>exact ⟨z,(fun _ _ e=>nomatch e),(fun _ e=>nomatch e)⟩
 | rule w hh d =>
  have h:(optOk w&&(optOk hh&&optOk d))=true:=by cases n<;>exact h
  simp only [Bool.and_eq_true] at h
  have a:=J3 h.2.1
  have b:=J3 h.2.2
  exact ⟨⟨by show _<=hh.getD 0+d.getD 0;have:=a.1;have:=b.1;omega,by show hh.getD 0+d.getD 0<=_;have:=a.2;have:=b.2;omega⟩,(fun _ _ e=>by cases e;exact ⟨a,b⟩),(fun _ e=>nomatch e)⟩
 | box c w hh d st sh l =>
  cases n with
  | zero=>cases h
  | succ n =>
   simp only [right,Bool.and_eq_true] at h
   have a:=iN h.2.1
   have b:=iN h.2.2.1
   exact ⟨⟨by show _<=hh+d;have:=a.1;have:=b.1;omega,by show hh+d<=_;have:=a.2;have:=b.2;omega⟩,(fun _ _ e=>by cases e;exact ⟨a,b⟩),(fun _ e=>nomatch e)⟩
 | disc a b c=>exact ⟨z,(fun _ _ e=>nomatch e),(fun _ e=>nomatch e)⟩
 | adjust l=>exact ⟨z,(fun _ _ e=>nomatch e),(fun _ e=>nomatch e)⟩
 | mark k=>exact ⟨z,(fun _ _ e=>nomatch e),(fun _ e=>nomatch e)⟩
 | insert c g d k l=>exact ⟨z,(fun _ _ e=>nomatch e),(fun _ e=>nomatch e)⟩
 | anchor k=>exact ⟨z,(fun _ _ e=>nomatch e),(fun _ e=>nomatch e)⟩
def qI(l:List Thing):Prop:=∀ t∈l,OW t
theorem rT{n:Nat}{l:List Thing}(h:l.all (right n)=true):qI l:=fun t ht=>pJ (all_eq_true.mp h t ht)
theorem qI.sub{a b:List Thing}(h:a.Sublist b)(x:qI b):qI a:=fun t ht=>x t (h.subset ht)
theorem rV:∀ {l:List Thing},qI l->Le (columnSum l) (l.length*2147483646)
 | [],_=>⟨by decide,by decide⟩
 | t::r,h=>by
  have a:=(h t (by simp)).col
  have b:=rV (l:=r) fun t ht=>h t (by simp [ht])
  have e:columnSum (t::r)=inColumn t+columnSum r:=by simp [columnSum]
  rw [e]
  unfold Le at *
  rw [length_cons]
  omega
theorem IW{l:List Thing}(h:qI l):Le (lastDepth l) 1073741823:=by
 unfold lastDepth
 split
 ·rename_i t e
  have hm:=List.mem_of_find?_eq_some e
  have hs:=h t (by simpa using hm)
  cases q:solid t with
  | none=>exact ⟨by decide,by decide⟩
  | some x=>exact (hs.sol x.1 x.2 q).2
 ·exact ⟨by decide,by decide⟩
theorem zQ(f:Glue->Int)(p:Glue->Bool):∀ {l:List Thing},(∀ t∈l,∀ g,glueOf t=some g->Le (f g) 1073741823)->Le ((((l.filterMap glueOf).filter p).map f).sum) (l.length*1073741823)
 | [],_=>by simp [Le]
 | t::r,h=>by
  have b:=zQ f p (l:=r) fun t ht=>h t (by simp [ht])
  rw [List.filterMap_cons,length_cons]
  cases q:glueOf t with
  | none=>simp only;unfold Le at *;omega
  | some g =>
   have a:=h t (by simp) g q
   simp only [List.filter_cons]
   split
   ·rw [map_cons,List.sum_cons];unfold Le at *;omega
   ·unfold Le at *;omega
theorem IA{l:List Thing}(h:qI l)(o:Nat):Le (stretchOf l o) (l.length*1073741823):=zQ _ _ fun t ht g e=>((h t ht).glu g e).2.1
theorem J1{l:List Thing}(h:qI l)(o:Nat):Le (shrinkOf l o) (l.length*1073741823):=zQ _ _ fun t ht g e=>((h t ht).glu g e).2.2.1
structure dI(s:Style):Prop where
 height:isLen s.height=true
 most:isLen s.most=true
 QI:0<=s.most
 top:glueOk s.top=true
 cls:∀ x∈s.classes,glueOk x.2.skip=true/\0<=x.2.factor/\x.2.factor<=1000000/\isLen x.2.most=true
theorem dI.at{s:Style}(h:dI s)(c:Nat):glueOk (classOf s c).skip=true/\0<=(classOf s c).factor/\(classOf s c).factor<=1000000/\isLen (classOf s c).most=true:=by
 unfold classOf
 cases q:s.classes.find? fun (x:Nat×Class)=>x.1==c with
 | none=>exact ⟨by decide,by decide,by decide,by decide⟩
 | some x=>exact h.cls x (List.mem_of_find?_eq_some q)
structure i_(l:List Thing):Prop where
 right:l.all (right 8)=true
 gA:gA l<=2000
theorem i_.of_keeps{l:List Thing}(h:keeps l=true):i_ l:=by
 unfold keeps at h
 rw [Bool.and_eq_true,decide_eq_true_eq] at h
 refine ⟨h.1,?_⟩
 have e:l.flatMap (nums 9)=l.flatMap (nums 8):=kS (p:=SbThing.right 8) h.1 fun t ht=>(gJ 8 t (fT 8 t ht)).2
 unfold Cp.gA
 rw [e]
 have:=h.2
 unfold told listNums at this
 rw [length_cons] at this
 unfold MOST at this
 show (l.flatMap (nums DEEP)).length<=2000
 omega
theorem i_.len{l:List Thing}(h:i_ l):l.length<=2000:=Nat.le_trans (nX (oA (c8 h.right))) h.gA
theorem i_.at{l:List Thing}{i:Nat}{t:Thing}(h:i_ l)(e:l[i]?=some t):SbThing.right 8 t=true:=all_eq_true.mp h.right t (List.mem_of_getElem? e)
theorem JI{c:Nat}{g:Glue}{d k:Int}{l:List Thing}(h:right 8 (.insert c g d k l)=true):(c:Int)<=255/\glueOk g=true/\isLen d=true/\isLen k=true/\l.all (right 7)=true:=by
 have h:(decide ((c:Int)<=CLASSES)&&(glueOk g&&(isLen d&&(isLen k&&l.all (right 7)))))=true:=h
 simp only [Bool.and_eq_true,decide_eq_true_eq] at h
 exact h
theorem sA{l:List Thing}(h:l.all (right 7)=true):l.all (fits 8)=true:=t9 (fun t ht=>(gJ 7 t (fT 7 t ht)).1) h
theorem i_.body{l:List Thing}{i:Nat}{c:Nat}{g:Glue}{d k:Int}{b:List Thing}(h:i_ l)(e:l[i]?=some (.insert c g d k b)):b.all (SbThing.right 7)=true/\Cp.gA b<=2000/\b.length<=2000:=by
 have hr:=(JI (h.at e)).2.2.2.2
 have hm:(nums 9 (.insert c g d k b)).length<=Cp.gA l:=by
  rw [<-nR]
  exact kJ (List.singleton_sublist.mpr (List.mem_of_getElem? e))
 rw [lZ (sA hr)] at hm
 have:=h.gA
 have h2:Cp.gA b<=2000:=by omega
 exact ⟨hr,h2,Nat.le_trans (nX (oA (sA hr))) h2⟩
def GB:Int:=4503601774854144
structure Bd(l:List Thing)(i:Nat)(p:Sofar):Prop where
 goal:Le p.goal (1073741823+i*GB)
 sum:Le p.sum (i*8589934592)
 depth:Le p.depth 1073741823
 str:∀ x∈p.stretch,Le x (i*2147483646)
 shr:Le p.shrink (i*2147483646)
 high:∀ o∈p.classes,Le o.high (i*4294967292000)
 tt:gA p.things<=gA (l.take i)+6*i
 tw:gA p.waiting<=gA (l.take i)+6*i
 tc:∀ o∈p.classes,gA o.things<=gA (l.take i)
 fc:∀ o∈p.classes,o.things.all (fits 8)=true
 ft:p.things.all (fits 8)=true
 fw:p.waiting.all (fits 9)=true
theorem LK{f h:Int}(hf:0<=f)(hf2:f<=1000000)(hh:Le h 4294967292000):Le (counted f h) 4294967292000000:=by
 unfold counted
 have a:-(4294967292000*1000000)<=h*f:=by
  have:=hh.1
  rcases Int.le_total 0 h with q|q
  ·have:=Int.mul_nonneg q hf;omega
  ·have h1:(-h)*f<=4294967292000*1000000:=Int.mul_le_mul (by omega) hf2 hf (by omega)
   rw [Int.neg_mul] at h1;omega
 have b:h*f<=4294967292000*1000000:=by
  have:=hh.2
  rcases Int.le_total 0 h with q|q
  ·exact Int.mul_le_mul this hf2 hf (by omega)
  ·have:=Int.mul_nonneg (a:=-h) (by omega) hf
   rw [Int.neg_mul] at this;omega
 constructor<;>omega
theorem gC{x a b:Int}(h:Le x a)(k:a<=b):Le x b:=⟨by have:=h.1;omega,by have:=h.2;omega⟩
theorem Ay{p:Sofar}{c:Nat}:a7 p c∈p.classes\/a7 p c=⟨c,[],0,false⟩:=by
 unfold a7 classOn
 cases q:p.classes.find? fun (x:OnPage)=>x.cls==c with
 | none=>exact .inr rfl
 | some x=>exact .inl (List.mem_of_find?_eq_some q)
theorem qU(p:Sofar)(c:Nat):(a7 p c).cls=c:=by
 unfold a7 classOn
 cases q:p.classes.find? fun (x:OnPage)=>x.cls==c with
 | none=>rfl
 | some x=>simpa using List.find?_some q
theorem le0{b:Int}(h:0<=b):Le 0 b:=⟨by omega,h⟩
theorem Iy{st:List Int}{k:Nat}{a B A:Int}(h:∀ x∈st,Le x B)(ha:Le a A)(hB:0<=B):∀ x∈st.set k (st.getD k 0+a),Le x (B+A):=by
 intro x hx
 have hA:0<=A:=by have:=ha.1;have:=ha.2;omega
 rcases List.mem_or_eq_of_mem_set hx with q|q
 ·exact gC (h x q) (by omega)
 ·subst q
  have:Le (st.getD k 0) B:=by
   rw [getD_eq_getElem?_getD]
   cases e:st[k]? with
   | none=>exact ⟨by simpa using hB,by simpa using hB⟩
   | some y=>exact h y (List.mem_of_getElem? e)
  unfold Le at *
  omega
theorem vO{l:List Thing}{i:Nat}{t:Thing}(ht:l[i]?=some t):gA (l.take (i+1))=gA (l.take i)+(nums 9 t).length:=by
 rw [List.take_add_one,ht,eT]
 show _+gA [t]=_
 rw [nR]
theorem D2{l:List Thing}{i:Nat}{p:Sofar}{t:Thing}(B:Bd l i p)(ht:l[i]?=some t):Bd l (i+1) p:=by
 have e:=vO ht
 have hg:(0:Int)<=GB:=by decide
 refine ⟨gC B.goal (by rw [Int.natCast_add];simp only [Int.add_mul];omega),gC B.sum (by omega),B.depth,fun x hx=>gC (B.str x hx) (by omega),gC B.shr (by omega),fun o ho=>gC (B.high o ho) (by omega),by have:=B.tt;omega,by have:=B.tw;omega,fun o ho=>by have:=B.tc o ho;omega,B.fc,B.ft,B.fw⟩
theorem PM{l:List Thing}{i:Nat}{p:Sofar}(B:Bd l i p)(x:Option Thing):Bd l i { p with last:=x }:=⟨B.goal,B.sum,B.depth,B.str,B.shr,B.high,B.tt,B.tw,B.tc,B.fc,B.ft,B.fw⟩
theorem mT{l:List Thing}{i:Nat}{p:Sofar}{t:Thing}(B:Bd l i p)(ht:l[i]?=some t)(hf:fits 8 t=true):Bd l (i+1) { p with things:=p.things++[t] }:=by
 have e:=vO ht
 have N:=D2 B ht
 refine ⟨N.goal,N.sum,N.depth,N.str,N.shr,N.high,?_,N.tw,N.tc,N.fc,?_,N.fw⟩
 ·rw [eT,nR];have:=B.tt;omega
 ·rw [all_append,B.ft];simp [hf]
theorem Jn{l:List Thing}{i:Nat}{p:Sofar}{t:Thing}{g:Glue}(B:Bd l i p)(ht:l[i]?=some t)(hf:fits 8 t=true)(hg:Le g.size 1073741823/\Le g.stretch 1073741823/\Le g.shrink 1073741823):Bd l (i+1) (glueThing p t g):=by
 have N:=mT B ht hf
 refine ⟨N.goal,?_,⟨by show _<=(0:Int);decide,by show (0:Int)<=_;decide⟩,fun x hx=>?_,?_,N.high,N.tt,N.tw,N.tc,N.fc,N.ft,N.fw⟩
 ·show Le (p.sum+p.depth+g.size) _
  have a:=B.sum;have b:=B.depth;have c:=hg.1
  unfold Le at *
  omega
 ·exact gC (Iy B.str hg.2.1 (by omega) x hx) (by omega)
 ·show Le (p.shrink+g.shrink) _
  have a:=B.shr;have c:=hg.2.2
  unfold Le at *
  omega
theorem KD{l:List Thing}{i:Nat}{p:Sofar}{t:Thing}{s:Style}{h d:Int}(S:dI s)(B:Bd l i p)(ht:l[i]?=some t)(hf:fits 8 t=true)(hh:Le h 1073741823)(hd:Le d 1073741823):Bd l (i+1) (solidThing s p t h d):=by
 have e:=vO ht
 have N:=mT B ht hf
 have gt:=lB S.top
 have m1:=iN S.most
 have m0:=S.QI
 have hsum:∀ q:Int,Le q (i*8589934592+2147483646+1073741823)->Le (q+h+max 0 (d - s.most)) ((i+1:Nat)*8589934592):=fun q hq=>by
  unfold Le at *
  omega
 have hdep:Le (min d s.most) 1073741823:=by unfold Le at *;omega
 unfold solidThing
 by_cases b:hasSolid p.things=true
 ·simp only [if_pos b]
  refine ⟨N.goal,hsum (p.sum+p.depth) ?_,hdep,N.str,N.shr,N.high,N.tt,N.tw,N.tc,N.fc,N.ft,N.fw⟩
  have a:=B.sum;have c:=B.depth
  unfold Le at *
  omega
 ·simp only [if_neg b]
  refine ⟨N.goal,hsum (p.sum+p.depth+max 0 (s.top.size - h)+0) ?_,hdep,fun x hx=>?_,?_,N.high,?_,N.tw,N.tc,N.fc,?_,N.fw⟩
  ·have a:=B.sum;have c:=B.depth;have z:=gt.1
   unfold Le at *
   omega
  ·exact gC (Iy B.str gt.2.1 (by omega) x hx) (by omega)
  ·show Le (p.shrink+s.top.shrink) _
   have a:=B.shr;have c:=gt.2.2.1
   unfold Le at *
   omega
  ·show gA ((p.things++[.glue _])++[t])<=_
   rw [eT,eT,nR,nR,Ie]
   have:=B.tt
   omega
  ·show ((p.things++[Thing.glue _])++[t]).all (fits 8)=true
   rw [all_append,all_append,B.ft]
   simp [hf,fits]
theorem Lv{l:List Thing}{i:Nat}{p:Sofar}{s:Style}{c:Nat}(S:dI s)(B:Bd l i p) :
 Le (aT s p c).goal (1073741823+i*GB+1073741823)/\(∀ x∈(aT s p c).stretch,Le x (i*2147483646+1073741823))/\Le (aT s p c).shrink (i*2147483646+1073741823):=by
 have gs:=lB (S.at c).1
 have hg:(0:Int)<=GB:=by decide
 unfold aT
 split
 ·refine ⟨?_,fun x hx=>Iy B.str gs.2.1 (by omega) x hx,?_⟩
  ·show Le (p.goal - (classOf s c).skip.size) _
   have a:=B.goal;have b:=gs.1
   unfold Le at *
   omega
  ·show Le (p.shrink+(classOf s c).skip.shrink) _
   have a:=B.shr;have b:=gs.2.2.1
   unfold Le at *
   omega
 ·exact ⟨gC B.goal (by omega),fun x hx=>gC (B.str x hx) (by omega),gC B.shr (by omega)⟩
theorem D1{l:List Thing}{i:Nat}{p:Sofar}(B:Bd l i p)(c:Nat):Le (a7 p c).high (i*4294967292000)/\gA (a7 p c).things<=gA (l.take i)/\(a7 p c).things.all (fits 8)=true:=by
 rcases Ay (p:=p) (c:=c) with h|h
 ·exact ⟨B.high _ h,B.tc _ h,B.fc _ h⟩
 ·rw [h];exact ⟨⟨by show -_<=(0:Int);omega,by show (0:Int)<=_;omega⟩,by show gA []<=_;rw [My];omega,rfl⟩
theorem kR{p:Sofar}{x o:OnPage}(h:o∈(setClass p x).classes):o∈p.classes\/o=x:=by
 simp only [setClass,mem_append,List.mem_filter,List.mem_singleton] at h
 exact h.imp (fun z=>z.1) id
theorem FK{l:List Thing}{i:Nat}{p:Sofar}{s:Style}{c:Nat}{g:Glue}{d k:Int}{b x:List Thing}{closed:Bool}(S:dI s)(O:i_ l)(B:Bd l i p)(ht:l[i]?=some (.insert c g d k b))(hx:x.Sublist b):Bd l (i+1) (cK s p c x closed):=by
 obtain ⟨hr,hb,hl⟩:=O.body ht
 have e:=vO ht
 rw [lZ (sA hr)] at e
 have N:=D2 B ht
 obtain ⟨k1,k2,k3,k4,k5,k6,k7⟩:=dZ s p c
 obtain ⟨q1,q2,q3⟩:=Lv (c:=c) S B
 obtain ⟨o1,o2,o3⟩:=D1 B c
 have htall:Le (tall x) 4294967292000:=by
  have a:=rV (l:=x) ((rT hr).sub hx)
  have b:=hx.length_le
  refine gC a ?_
  omega
 have hcnt:=LK (S.at c).2.1 (S.at c).2.2.1 htall
 have hxt:=kJ hx
 have hcls:∀ o∈(cK s p c x closed).classes,o∈p.classes\/o={ a7 p c with things:=(a7 p c).things++x,high:=(a7 p c).high+tall x,closed:=closed }:=fun o ho=>by
  rcases kR ho with z|z
  ·have z:o∈(aT s p c).classes:=z
   rw [k4] at z;exact .inl z
  ·exact .inr z
 refine ⟨?_,?_,?_,fun y hy=>gC (q2 y hy) (by omega),gC q3 (by omega),fun o ho=>?_,?_,?_,fun o ho=>?_,fun o ho=>?_,?_,?_⟩
 ·show Le ((aT s p c).goal - counted (classOf s c).factor (tall x)) _
  unfold Le GB at *
  rw [Int.natCast_add,Int.add_mul]
  omega
 ·show Le (aT s p c).sum _
  rw [k6];exact N.sum
 ·show Le (aT s p c).depth _
  rw [k7];exact N.depth
 ·rcases hcls o ho with z|z
  ·exact N.high o z
  ·subst z
   show Le ((a7 p c).high+tall x) _
   unfold Le at *
   omega
 ·show gA (aT s p c).things<=_
  rw [k3];exact N.tt
 ·show gA (aT s p c).waiting<=_
  rw [k1];exact N.tw
 ·rcases hcls o ho with z|z
  ·exact N.tc o z
  ·subst z
   show gA ((a7 p c).things++x)<=_
   rw [eT];omega
 ·rcases hcls o ho with z|z
  ·exact N.fc o z
  ·subst z
   show ((a7 p c).things++x).all (fits 8)=true
   rw [all_append,o3,D6 hx (sA hr)];rfl
 ·show (aT s p c).things.all (fits 8)=true
  rw [k3];exact N.ft
 ·show (aT s p c).waiting.all (fits 9)=true
  rw [k1];exact N.fw
theorem MW{l:List Thing}{i:Nat}{p:Sofar}{s:Style}{c:Nat}{g:Glue}{d k:Int}{b:List Thing}(S:dI s)(O:i_ l)(B:Bd l i p)(ht:l[i]?=some (.insert c g d k b)):Bd l (i+1) (insertThing s p c b g d k):=by
 obtain ⟨hr,hb,hl⟩:=O.body ht
 have e:=vO ht
 rw [lZ (sA hr)] at e
 have N:=D2 B ht
 obtain ⟨o1,o2,o3⟩:=D1 B c
 rw [rH]
 unfold iZ
 split
 ·exact FK S O B ht (List.Sublist.refl _)
 ·split
  ·rename_i x hx
   have hx':∃ v most,CC v most g b=some x:=by
    unfold qB at hx
    split at hx
    ·exact ⟨_,_,hx⟩
    ·cases hx
   obtain ⟨v,most,hm⟩:=hx'
   obtain ⟨j,rfl⟩:=EJ hm
   have M:=FK (closed:=true) S O B ht (List.take_sublist j b)
   have hrf:(eC g (b.drop (j+1))).all (fits 8)=true:=En (fun _=>rfl) (D6 (List.drop_sublist _ _) (sA hr))
   have hrt:gA (eC g (b.drop (j+1)))<=gA b+6:=by
    have:=Ew g (b.drop (j+1))
    have:=kJ (List.drop_sublist (j+1) b)
    omega
   refine ⟨M.goal,M.sum,M.depth,M.str,M.shr,M.high,M.tt,?_,M.tc,M.fc,M.ft,?_⟩
   ·show gA (p.waiting++[.insert c g d k (eC g (b.drop (j+1)))])<=_
    rw [eT,nR,lZ hrf]
    have:=B.tw
    omega
   ·show (p.waiting++[Thing.insert c g d k (eC g (b.drop (j+1)))]).all (fits 9)=true
    rw [all_append,B.fw]
    simp only [all_cons,List.all_nil,Bool.and_true,Bool.true_and]
    exact hrf
  ·split
   ·exact FK S O B ht (List.Sublist.refl _)
   ·refine ⟨N.goal,N.sum,N.depth,N.str,N.shr,fun o ho=>?_,N.tt,?_,fun o ho=>?_,fun o ho=>?_,N.ft,?_⟩
    ·rcases kR ho with z|z
     ·exact N.high o z
     ·subst z;exact gC o1 (by omega)
    ·show gA (p.waiting++[.insert c g d k b])<=_
     rw [eT,nR,lZ (sA hr)]
     have:=B.tw
     omega
    ·rcases kR ho with z|z
     ·exact N.tc o z
     ·subst z;show gA (a7 p c).things<=_;omega
    ·rcases kR ho with z|z
     ·exact N.fc o z
     ·subst z;exact o3
    ·show (p.waiting++[Thing.insert c g d k b]).all (fits 9)=true
     rw [all_append,B.fw]
     simp only [all_cons,List.all_nil,Bool.and_true,Bool.true_and]
     exact sA hr
theorem Rw{s:Style}{l:List Thing}{i:Nat}{p:Sofar}{t:Thing}(S:dI s)(O:i_ l)(B:Bd l i p)(ht:l[i]?=some t):Bd l (i+1) (put s p t):=by
 have hr:=O.at ht
 have hf:=fT 8 t hr
 have sm:=pJ hr
 unfold SgPage.put
 refine PM ?_ _
 have N:=D2 B ht
 cases t with
 | glue g =>
  show Bd l (i+1) (if p.begun=true then glueThing p (.glue g) g else p)
  split
  ·have:=sm.glu g rfl
   exact Jn B ht hf ⟨this.1,this.2.1,this.2.2.1⟩
  ·exact N
 | leaders g how w =>
  show Bd l (i+1) (if p.begun=true then glueThing p (.leaders g how w) g else p)
  split
  ·have:=sm.glu g rfl
   exact Jn B ht hf ⟨this.1,this.2.1,this.2.2.1⟩
  ·exact N
 | kern k =>
  show Bd l (i+1) (if p.begun=true then glueThing p (.kern k) ⟨k,0,0,0,0⟩ else p)
  split
  ·have h:isLen k=true:=hr
   exact Jn B ht hf ⟨iN h,le0 (by decide),le0 (by decide)⟩
  ·exact N
 | penalty k =>
  show Bd l (i+1) (if p.begun=true then { p with things:=p.things++[.penalty k] } else p)
  split
  ·exact mT B ht hf
  ·exact N
 | insert c g d k b=>exact MW S O B ht
 | box c w h d st sh b=>have:=sm.sol h d rfl;exact KD S B ht hf this.1 this.2
 | rule w h d=>have:=sm.sol (h.getD 0) (d.getD 0) rfl;exact KD S B ht hf this.1 this.2
 | glyph n w h d=>exact mT B ht hf
 | disc a b c=>exact mT B ht hf
 | adjust b=>exact mT B ht hf
 | mark c=>exact mT B ht hf
 | anchor k=>exact mT B ht hf
theorem uI{s:Style}{l:List Thing}(S:dI s)(O:i_ l):∀ i,i<=l.length->Bd l i (sofarAt s l i)
 | 0,_=>by
  have h:=iN S.height
  refine ⟨?_,le0 (by decide),le0 (by decide),?_,le0 (by decide),(fun o ho=>nomatch ho),Nat.zero_le _,Nat.zero_le _,(fun o ho=>nomatch ho),(fun o ho=>nomatch ho),rfl,rfl⟩
  ·show Le s.height _
   exact gC h (by simp)
  ·intro x hx
   have hx:x∈([0,0,0,0]:List Int):=hx
   have:x=0:=by simpa using hx
   subst this
   exact ⟨by decide,by decide⟩
 | i+1,h=>by
  obtain ⟨t,ht⟩:∃ t,l[i]?=some t:=⟨_,getElem?_eq_getElem (by omega)⟩
  rw [iY ht]
  exact Rw S O (uI S O i (by omega)) ht
end Cp
namespace L2
open PySem PySem.Spec PyProof.Rows
abbrev fY:=Sum Int Str
def BS:fY->Value->Bool
 | .inl k,v=>Value.isInt k v
 | .inr x,v=>Value.isStrOf x v
def SM(w:World):fY->Int
 | .inl k=>hashInt k
 | .inr x=>hashStr w x
theorem d8:∀ {k:fY} {v:Value},BS k v=true->(∃ i t,k=Sum.inl i/\v=Value.int i t)\/(∃ x t,k=Sum.inr x/\v=Value.str x t)
 | .inl i,v,h=>by
  obtain ⟨t,e⟩:=Value.isInt_shape (k:=i) (v:=v) h
  exact .inl ⟨i,t,rfl,e⟩
 | .inr x,v,h=>by
  obtain ⟨t,e⟩:=Value.isStrOf_shape (x:=x) (v:=v) h
  exact .inr ⟨x,t,rfl,e⟩
theorem NA(i:Int)(t:Tok):BS (.inl i) (.int i t)=true:=by simp [BS,Value.isInt]
theorem MX(x:Str)(t:Tok):BS (.inr x) (.str x t)=true:=by simp [BS,Value.isStrOf]
theorem Q9(a b:Int):decide ((Sum.inl a:fY)=Sum.inl b)=(a==b):=by
 by_cases e:a=b
 ·subst e;simp
 ·have h:¬ (Sum.inl a:fY)=Sum.inl b:=fun q=>e (Sum.inl.inj q)
  rw [decide_eq_false h]
  exact (beq_eq_false_iff_ne.mpr e).symm
theorem Q2(a b:Str):decide ((Sum.inr a:fY)=Sum.inr b)=decide (a=b):=by
 by_cases e:a=b
 ·subst e;simp
 ·have h:¬ (Sum.inr a:fY)=Sum.inr b:=fun q=>e (Sum.inr.inj q)
  rw [decide_eq_false h,decide_eq_false e]
theorem Rl(a:Int)(b:Str):decide ((Sum.inl a:fY)=Sum.inr b)=false:=decide_eq_false (fun q=>nomatch q)
theorem Rv(a:Str)(b:Int):decide ((Sum.inr a:fY)=Sum.inl b)=false:=decide_eq_false (fun q=>nomatch q)
def dY(prog:Program)(w:World):PySem.KeyKind prog w fY where
 is:=BS
 hash:=SM w
 inj:=fun v a b ha hb=>by
  rcases d8 ha with ⟨i,t,rfl,rfl⟩|⟨x,t,rfl,rfl⟩
  ·rcases d8 hb with ⟨j,u,rfl,e⟩|⟨y,u,rfl,e⟩
   ·injection e with e1 _;rw [e1]
   ·exact nomatch e
  ·rcases d8 hb with ⟨j,u,rfl,e⟩|⟨y,u,rfl,e⟩
   ·exact nomatch e
   ·injection e with e1 _;rw [e1]
 byValue:=fun k v h=>by
  rcases d8 h with ⟨i,t,rfl,rfl⟩|⟨x,t,rfl,rfl⟩<;>rfl
 pyHash:=fun hv h=>by
  rcases d8 hv with ⟨i,t,rfl,rfl⟩|⟨x,t,rfl,rfl⟩
  ·exact wpAny_pyHash_int h
  ·exact wpAny_pyHash_str h
 eqBool:=fun hu hv h=>by
  rcases d8 hu with ⟨i,t,rfl,rfl⟩|⟨x,t,rfl,rfl⟩
  ·rcases d8 hv with ⟨j,u,rfl,rfl⟩|⟨y,u,rfl,rfl⟩
   ·rw [Q9] at h;exact wpAny_eqBool_int h
   ·rw [Rl] at h;exact SeqAt.EqAt.int_str i t y u _ _ _ _ h
  ·rcases d8 hv with ⟨j,u,rfl,rfl⟩|⟨y,u,rfl,rfl⟩
   ·rw [Rv] at h;exact SeqAt.EqAt.str_int x t j u _ _ _ _ h
   ·rw [Q2] at h;exact wpAny_eqBool_str h
 «strs»:=fun k x t v h=>by
  rcases d8 h with ⟨i,u,rfl,e⟩|⟨y,u,rfl,e⟩
  ·exact nomatch e
  ·injection e with e1 _
   subst e1
   cases v<;>rfl
theorem KQ(prog:Program)(w:World)(i:Int)(t:Tok):(dY prog w).is (.inl i) (.int i t)=true:=NA i t
theorem KL(prog:Program)(w:World)(x:Str)(t:Tok):(dY prog w).is (.inr x) (.str x t)=true:=MX x t
inductive V where
 | eX|bl (b:Bool)|int (i:Int)|str (x:Str)|byt (b:Array UInt8)|flt (b:UInt64)|ref (a:Addr)|ty (n:String)
 deriving DecidableEq
def cJ:V->Value->Prop
 | .eX,u=>u=Value.none
 | .bl b,u=>u=Value.bool b
 | .int i,u=>∃ t,u=Value.int i t
 | .str x,u=>∃ t,u=Value.str x t
 | .byt b,u=>∃ t,u=Value.bytes b t
 | .flt b,u=>∃ t,u=Value.float b t
 | .ref a,u=>u=Value.ref a
 | .ty n,u=>u=Value.type n
abbrev b9:List V->List Value->Prop:=Paired cJ
theorem b9.length{xs:List V}{us:List Value}(r:b9 xs us):xs.length=us.length:=Paired.length r
theorem b9.get:∀ {xs:List V} {us:List Value} {i:Nat} {x:V},b9 xs us->xs[i]?=some x->∃ u,us[i]?=some u/\cJ x u
 | _,_,_,_,.nil,e=>by simp at e
 | _,_,0,_,.cons r _,e=>by simp at e;subst e;exact ⟨_,rfl,r⟩
 | _,_,i+1,x,.cons _ t,e=>by
  obtain ⟨u,h1,h2⟩:=b9.get (i:=i) (x:=x) t (by simpa using e)
  exact ⟨u,by simpa using h1,h2⟩
theorem b9.set{x:V}{u:Value}(r:cJ x u):∀ {xs:List V} {us:List Value} (i:Nat),b9 xs us->b9 (xs.set i x) (us.set i u)
 | _,_,_,.nil=>.nil
 | _,_,0,.cons _ t=>.cons r t
 | _,_,i+1,.cons q t=>.cons q (b9.set r i t)
theorem b9.append:∀ {xs ys:List V} {us ws:List Value},b9 xs us->b9 ys ws->b9 (xs++ys) (us++ws)
 | _,_,_,_,.nil,s=>s
 | _,_,_,_,.cons r t,s=>.cons r (b9.append t s)
theorem b9.take:∀ {xs:List V} {us:List Value} (n:Nat),b9 xs us->b9 (xs.take n) (us.take n)
 | _,_,0,_=>.nil
 | _,_,_+1,.nil=>.nil
 | _,_,n+1,.cons r t=>.cons r (b9.take n t)
theorem b9.drop:∀ {xs:List V} {us:List Value} (n:Nat),b9 xs us->b9 (xs.drop n) (us.drop n)
 | _,_,0,r=>r
 | _,_,_+1,.nil=>.nil
 | _,_,n+1,.cons _ t=>b9.drop n t
def xG:Option V->Option Value->Prop
 | some v,some u=>cJ v u
 | none,none=>True
 | _,_=>False
def KV{κ:Type}:List (κ×V)->List (κ×Value)->Prop:=Paired fun (p:κ×V) (q:κ×Value)=>p.1=q.1/\cJ p.2 q.2
def kV:fY->V
 | .inl i=>.int i
 | .inr x=>.str x
inductive HO where
 | lst (xs:List V)
 | tup (xs:List V)
 | dK (kvs:List (fY×V))|dT (kvs:List (List fY×V))
 | set (S:Int->Bool) (n:Nat)
 | ins (C dx:Addr) (fs:List (Str×V))
 | own (x:Addr)
 | xd (fs:List (Str×V))
 | met (f x:Addr)
 | rng (lo hi:Int)
 | mH (o:Obj) (u:HO)
 | tbl (ps:Array Value)
 | ext (φ:Heap->Prop)
abbrev Hp:=Addr->Option HO
def a6(H:Hp)(a:Addr)(o:HO):Hp:=fun b=>if b=a then some o else H b
theorem aD{H:Hp}{a:Addr}{o:HO}:a6 H a o a=some o:=by unfold a6;rw [if_pos rfl]
theorem aJ{H:Hp}{a b:Addr}{o:HO}(h:b≠a):a6 H a o b=H b:=by unfold a6;rw [if_neg h]
theorem bU{H:Hp}{a:Addr}{o u:HO}:a6 (a6 H a o) a u=a6 H a u:=by
 funext b;unfold a6;split<;>rfl
theorem cX{H:Hp}{a b:Addr}{o u:HO}(h:H a=some o)(h':H b=some u)(d:o≠u):a≠b:=by
 intro e;subst e;rw [h] at h';exact d (Option.some.inj h')
theorem aH{H:Hp}{a b:Addr}{o:HO}(h:H a=some o)(h':H b=none):a≠b:=by
 intro e;subst e;rw [h] at h';cases h'
section
variable (P:Program)(w:World)
def iF(H:Hp)(h:Heap)(a:Addr):HO->Prop
 | .lst xs=>xs.length<=sizeLine/\∃ (its:List Value) (n:Nat),b9 xs its/\h.get? a=some { cls:=.type "list",data:=.seq its.toArray n }
 | .tup xs=>xs.length<=sizeLine/\∃ its:List Value,b9 xs its/\IsTup h a its.toArray
 | .dK kvs=>kvs.length<=sizeLine/\(a==sysModules)=false/\∃ vs,KV kvs vs/\h.DictOf (dY P w) a vs
 | .dT kvs=>kvs.length<=sizeLine/\(a==sysModules)=false/\∃ xs:List (List fY×Addr×Value),
  Paired (fun (p:List fY×V) (q:List fY×Addr×Value)=>p.1=q.1/\H q.2.1=some (.tup (p.1.map kV))/\cJ p.2 q.2.2) kvs xs ∧
  ∃ o es ep,h.get? a=some o/\o.ExactDict/\o.data=.dict es ep/\es.toList=xs.map (entryOfKey (tupleKind (dY P w)))/\(xs.map (·.1)).Nodup
 | .set S n=>h.SetOf (intKind P w) a S n
 | .ins C dx fs=>H dx=some (.own a)/\fs.length<=1000/\dx≠a/\h.get? a=some (instObj C dx) ∧
  ∃ mA,h.Ns1 dx mA/\(∀ f,xG (fs.lookup f) (mA f))/\PySem.Within mA (fs.map (·.1))
 | .own _=>∃ o,h.get? a=some o
 | .xd fs=>∃ mA,h.Ns1 a mA/\∀ f,xG (fs.lookup f) (mA f)
 | .rng lo hi=>∃ t u v,h.get? a=some { cls:=.type "range",data:=.fields #[.int lo t,.int hi u,.int 1 v] }
 | .mH o u=>h.get? a=some o/\iF H h a u
 | .tbl ps=>h.get? a=some { cls:=.none,data:=.fields ps }
 | .met f x=>h.get? a=some (PySem.W.methodObj (.ref f) (.ref x))
 | .ext φ=>φ h/\(∃ o,h.get? a=some o)/\∀ h1 h2:Heap,φ h1->(∀ o,h1.get? a=some o->h2.get? a=some o)->φ h2
def sS(H:Hp)(h:Heap):Prop:=∀ a o,H a=some o->iF P w H h a o
end
section
variable {P:Program}{w:World}{H H':Hp}{h h':Heap}{a:Addr}{o:HO}
theorem iF.lt(x:iF P w H h a o):a<h.objs.size:=by
 cases o with
 | lst xs=>obtain ⟨_,_,_,_,e⟩:=x;exact Heap.lt_size e
 | tup xs=>obtain ⟨_,_,_,p⟩:=x;exact p.lt
 | dK kvs=>obtain ⟨_,_,_,_,o,_,_,e,_⟩:=x;exact Heap.lt_size e
 | dT kvs=>obtain ⟨_,_,_,_,o,_,_,e,_⟩:=x;exact Heap.lt_size e
 | set S n=>obtain ⟨o,_,_,_,e,_⟩:=x;exact Heap.lt_size e
 | ins C dx fs=>obtain ⟨_,_,_,e,_⟩:=x;exact Heap.lt_size e
 | own y=>obtain ⟨_,e⟩:=x;exact Heap.lt_size e
 | xd fs=>obtain ⟨_,⟨_,_,_,e,_⟩,_⟩:=x;exact Heap.lt_size e
 | rng lo hi=>obtain ⟨_,_,_,e⟩:=x;exact Heap.lt_size e
 | mH ob u=>obtain ⟨e,_⟩:=x;exact Heap.lt_size e
 | tbl ps=>exact Heap.lt_size (show h.get? a=some _ from x)
 | met f y=>exact Heap.lt_size (show h.get? a=some _ from x)
 | ext φ=>obtain ⟨_,⟨_,e⟩,_⟩:=x;exact Heap.lt_size e
theorem Paired.RB{α β:Type}{F G:α->β->Prop}:∀ {l₁:List α} {l₂:List β},Paired F l₁ l₂->(∀ a b,F a b->G a b)->Paired G l₁ l₂
 | _,_,.nil,_=>.nil
 | _,_,.cons r t,f=>.cons (f _ _ r) (Paired.RB t f)
theorem iF.sE(x:iF P w H h a o)(k:∀ b u,(b=a\/H b=some (.own a))->h.get? b=some u->h'.get? b=some u)
 (ho:∀ b,H b=some (.own a)->H' b=some (.own a)) (ht:∀ b xs,H b=some (.tup xs)->H' b=some (.tup xs)):iF P w H' h' a o:=by
 induction o with
 | lst xs=>obtain ⟨z,its,n,r,e⟩:=x;exact ⟨z,its,n,r,k _ _ (.inl rfl) e⟩
 | tup xs=>obtain ⟨z,its,r,ob,e,c⟩:=x;exact ⟨z,its,r,ob,k _ _ (.inl rfl) e,c⟩
 | dK kvs=>obtain ⟨z,y,vs,r,ob,es,ep,e,c⟩:=x;exact ⟨z,y,vs,r,ob,es,ep,k _ _ (.inl rfl) e,c⟩
 | dT kvs =>
  obtain ⟨z,y,xs,r,ob,es,ep,e,c⟩:=x
  exact ⟨z,y,xs,Paired.RB r fun p q z=>⟨z.1,ht _ _ z.2.1,z.2.2⟩,ob,es,ep,k _ _ (.inl rfl) e,c⟩
 | set S n=>obtain ⟨ob,es,ep,t,e,c⟩:=x;exact ⟨ob,es,ep,t,k _ _ (.inl rfl) e,c⟩
 | ins C dx fs =>
  obtain ⟨d,z,ne,e,mA,⟨od,es,ep,e2,c⟩,r⟩:=x
  exact ⟨ho _ d,z,ne,k _ _ (.inl rfl) e,mA,⟨od,es,ep,k _ _ (.inr d) e2,c⟩,r⟩
 | own y=>obtain ⟨ob,e⟩:=x;exact ⟨ob,k _ _ (.inl rfl) e⟩
 | xd fs=>obtain ⟨mA,⟨od,es,ep,e,c⟩,r⟩:=x;exact ⟨mA,⟨od,es,ep,k _ _ (.inl rfl) e,c⟩,r⟩
 | rng lo hi=>obtain ⟨t,u,v,e⟩:=x;exact ⟨t,u,v,k _ _ (.inl rfl) e⟩
 | mH ob u ih=>obtain ⟨e,q⟩:=x;exact ⟨k _ _ (.inl rfl) e,ih q⟩
 | tbl ps =>
  have e:h.get? a=some { cls:=.none,data:=.fields ps }:=x
  show h'.get? a=some { cls:=.none,data:=.fields ps }
  exact k a _ (.inl rfl) e
 | met f y =>
  have e:h.get? a=some (PySem.W.methodObj (.ref f) (.ref y)):=x
  show h'.get? a=some (PySem.W.methodObj (.ref f) (.ref y))
  exact k a _ (.inl rfl) e
 | ext φ=>obtain ⟨p,⟨o,e⟩,st⟩:=x;exact ⟨st _ _ p fun o q=>k _ _ (.inl rfl) q,⟨o,k _ _ (.inl rfl) e⟩,st⟩
theorem sS.lt(x:sS P w H h)(e:H a=some o):a<h.objs.size:=(x a o e).lt
theorem sS.fresh(x:sS P w H h)(e:h.objs.size<=a):H a=none:=by
 cases q:H a with
 | none=>rfl
 | some u=>exact absurd (Nat.lt_of_lt_of_le (x.lt q) e) (Nat.lt_irrefl _)
theorem sS.kept(x:sS P w H h)(k:∀ b u,h.get? b=some u->h'.get? b=some u):sS P w H h':=fun a o e =>
 (x a o e).sE (fun b u _ q=>k b u q) (fun _ q=>q) fun _ _ q=>q
theorem sS.laid(x:sS P w H h)(k:∀ b u,h.get? b=some u->h'.get? b=some u)(hp:h.objs.size<=a)(new:iF P w (a6 H a o) h' a o):sS P w (a6 H a o) h':=fun b u e=>by
 have hn:=x.fresh hp
 by_cases hb:b=a
 ·subst hb;rw [aD] at e;cases e;exact new
 ·rw [aJ hb] at e
  exact (x b u e).sE (fun c v _ q=>k c v q) (fun c q=>by rw [aJ (aH q hn)];exact q) fun c xs q=>by rw [aJ (aH q hn)];exact q
end
def Rd(H:Hp)(a:Addr)(u:HO):Prop:=H a=some u\/∃ o,H a=some (.mH o u)
theorem Rd.ok{P:Program}{w:World}{H:Hp}{h:Heap}{a:Addr}{u:HO}(r:Rd H a u)(x:sS P w H h):iF P w H h a u:=by
 rcases r with r|⟨o,r⟩
 ·exact x a u r
 ·obtain ⟨_,q⟩:=x a _ r
  exact q
def Mut:Option HO->Prop
 | some (.lst _)=>True
 | some (.dK _)=>True
 | some (.dT _)=>True
 | some (.set _ _)=>True
 | some (.ins _ _ _)=>True
 | some (.ext _)=>True
 | _=>False
section
variable {P:Program}{w:World}{H:Hp}{h h':Heap}{x e:Addr}{o':HO}
theorem sS.write(ok:sS P w H h)(mu:Mut (H x))(he:e=x\/H e=some (.own x))(k:∀ b u,b≠e->h.get? b=some u->h'.get? b=some u)(heo:∃ u,h'.get? e=some u)
 (new:iF P w (a6 H x o') h' x o'):sS P w (a6 H x o') h':=fun b u q=>by
 have nown:∀ c y,H c=some (.own y)->c≠x:=fun c y r z=>by subst z;rw [r] at mu;exact mu
 have ntup:∀ c xs,H c=some (.tup xs)->c≠x:=fun c xs r z=>by subst z;rw [r] at mu;exact mu
 by_cases hb:b=x
 ·subst hb;rw [aD] at q;cases q;exact new
 ·rw [aJ hb] at q
  by_cases hbe:b=e
  ·have q':H b=some (.own x):=by
    rcases he with z|z
    ·exact absurd (hbe.trans z) hb
    ·rw [hbe];exact z
   rw [q] at q';cases q'
   obtain ⟨v,hv⟩:=heo
   exact ⟨v,by rw [hbe];exact hv⟩
  ·refine (ok b u q).sE (fun c v hc r=>k c v ?_ r) (fun c r=>by rw [aJ (nown c b r)];exact r) fun c xs r=>by rw [aJ (ntup c xs r)];exact r
   rcases hc with rfl|hc
   ·exact hbe
   ·rintro rfl
    rcases he with z|z
    ·exact nown c b hc z
    ·rw [hc] at z;cases z;exact hb rfl
end
structure Un(fs ex:List Addr)(H H':Hp)(h h':Heap):Prop where
 keep:∀ b o,h.get? b=some o->H b=none->b∉fs->b∉ex->h'.get? b=some o
 slot:∀ b o,h.get? b=some o->H b=none->b∈fs->b∉ex->∃ sl,h'.get? b=some { o with slots:=sl }
 free:∀ b o,h.get? b=some o->H b=none->b∉ex->H' b=none
 there:∀ b o,h.get? b=some o->b∉ex->∃ o',h'.get? b=some o'
 DT:∀ b xs,H b=some (.tup xs)->H' b=some (.tup xs)
 Ar:∀ b o u,H b=some (.mH o u)->H' b=some (.mH o u)
 DP:∀ b ps,H b=some (.tbl ps)->∃ more,H' b=some (.tbl (ps++more))
section
variable {fs fs' ex ex':List Addr}{H H1 H2:Hp}{h h1 h2 h':Heap}{a x e:Addr}{o:HO}
theorem Un.any(u:Un fs ex H H1 h h1){b:Addr}{ob:Obj}(q:h.get? b=some ob)(n:H b=none)(hx:b∉ex):∃ sl,h1.get? b=some { ob with slots:=sl }:=by
 by_cases hb:b∈fs
 ·exact u.slot b ob q n hb hx
 ·exact ⟨ob.slots,u.keep b ob q n hb hx⟩
theorem Un.kept(k:∀ b u,h.get? b=some u->h'.get? b=some u):Un fs ex H H h h' :=
 ⟨fun b ob q _ _ _=>k b ob q,fun b ob q _ _ _=>⟨ob.slots,k b ob q⟩,fun _ _ _ n _=>n,fun b ob q _=>⟨ob,k b ob q⟩,fun _ _ q=>q,fun _ _ _ q=>q,fun _ ps q=>⟨#[],by rw [q];simp⟩⟩
theorem Un.refl:Un fs ex H H h h:=Un.kept fun _ _ q=>q
theorem Un.laid(k:∀ b u,h.get? b=some u->h'.get? b=some u)(hp:h.objs.size<=a)(hn:H a=none):Un fs ex H (a6 H a o) h h' where
 keep:=fun b u q _ _ _=>k b u q
 slot:=fun b u q _ _ _=>⟨u.slots,k b u q⟩
 free:=fun b u q n _=>by rw [aJ (Nat.ne_of_lt (Nat.lt_of_lt_of_le (Heap.lt_size q) hp))];exact n
 there:=fun b u q _=>⟨u,k b u q⟩
 DT:=fun b xs q=>by rw [aJ (aH q hn)];exact q
 Ar:=fun b u xs q=>by rw [aJ (aH q hn)];exact q
 DP:=fun b ps q=>⟨#[],by rw [aJ (aH q hn),q];simp⟩
theorem Un.write(mu:Mut (H x))(he:e=x\/H e=some (.own x))(k:∀ b u,b≠e->h.get? b=some u->h'.get? b=some u)(heo:∃ u,h'.get? e=some u):Un fs ex H (a6 H x o) h h':=by
 have hx:∀ b,H b=none->b≠x:=fun b n z=>by subst z;rw [n] at mu;exact mu
 have hb:∀ b,H b=none->b≠e:=fun b n z=>by
  subst z
  rcases he with r|r
  ·exact hx b n r
  ·rw [n] at r;cases r
 have hm:∀ b u,H b=some u->¬ Mut (some u)->b≠x:=fun b u q nm z=>by subst z;rw [q] at mu;exact nm mu
 refine ⟨fun b u q n _ _=>k b u (hb b n) q,fun b u q n _ _=>⟨u.slots,k b u (hb b n) q⟩,fun b u q n _=>by rw [aJ (hx b n)];exact n,fun b u q _=>?_,
  fun b xs q=>by rw [aJ (hm b _ q fun z=>z)];exact q,fun b u xs q=>by rw [aJ (hm b _ q fun z=>z)];exact q,fun b ps q=>⟨#[],by rw [aJ (hm b _ q fun z=>z),q];simp⟩⟩
 by_cases hbe:b=e
 ·subst hbe;exact heo
 ·exact ⟨u,k b u hbe q⟩
end
def trk(h:Heap)(H:Hp):List Addr:=(List.range h.objs.size).filter fun a=>(H a).isSome
def Js(h:Heap)(H:Hp):Heap:=hideAll h (trk h H)
theorem Nz(h:Heap)(H:Hp):(Js h H).objs.size=h.objs.size:=PySem.W.hideAll_size _ _
theorem OC{h:Heap}{H:Hp}{b:Addr}{o:Obj}(e:h.get? b=some o)(n:H b=none):(Js h H).get? b=some o :=
 hideAll_get _ e fun hm=>by
  have q:(H b).isSome=true:=(List.mem_filter.mp hm).2
  rw [n] at q;simp at q
theorem Qr{h:Heap}{H:Hp}{b:Addr}{o:Obj}(e:(Js h H).get? b=some o):h.get? b=some o/\H b=none:=by
 have e':h.get? b=some o:=PySem.W.of_hideAll (trk h H) e
 refine ⟨e',?_⟩
 cases q:H b with
 | none=>rfl
 | some x =>
  have hm:b∈trk h H:=List.mem_filter.mpr ⟨List.mem_range.mpr (Heap.lt_size e'),by simp [q]⟩
  have z:(Js h H).get? b=none:=PySem.W.hideAll_none (trk h H) hm
  rw [z] at e;cases e
structure Mod(K:Frag)(mg:Str->Option Value)(base:Heap):Prop where
 kin:K.In base
 glob:base.Ns mainGlobals mg
 blt:∃ mb,base.Ns builtinsNs mb/\∀ x:Str,x≠"__name__"->mb x=bootBuiltins x
 nolimit:base.NoLimit
structure Cx where
 prog:Program
 w:World
 K:Frag
 mg:Str->Option Value
 base:Heap
 A:Around
 N:List Str
 DO:Shared
 H_0:Hp
 env:Env
 outer:List Env
 stack:List Env
 ex:List Addr
 fn:Str->Bool
 calm:Bool
 pn:List (Addr×Obj)
 xe:Value->Shared->Prop
def rS(l:List Env):List Addr:=l.filterMap (·.frame)
abbrev Cx.fs(X:Cx):List Addr:=rS X.outer
def Vis(sc:Scope)(x:Str):Prop:=sc.names.lookup x=some .local\/sc.names.lookup x=some .cell\/sc.names.lookup x=some .free
def Loc(sc:Scope)(x:Str):Prop:=sc.names.lookup x=some .local\/sc.names.lookup x=some .cell
def SI(env:Env)(h:Heap)(m:Str->Option Value)(x:Str)(u:Value):Prop :=
 (env.kindOf x=some .local/\m x=some u)\/((env.kindOf x=some .cell\/env.kindOf x=some .free)/\∃ c,env.cells.lookup x=some c/\h.IsCell c (some u))
structure Cx.Ok(X:Cx):Prop where
 mod:Mod X.K X.mg X.base
 kind:X.env.scope.kind=.function
 glob:X.env.globals=mainGlobals
 blt:X.env.builtins=builtinsNs
 above:X.DO.heap.objs.size<=X.env.locals
 inj:∀ x y c,X.env.cells.lookup x=some c->X.env.cells.lookup y=some c->x=y
 has:∀ x,(X.env.kindOf x=some .cell\/X.env.kindOf x=some .free)->∃ c,X.env.cells.lookup x=some c
 cab:∀ x c,X.fn x=true->X.env.cells.lookup x=some c->X.DO.heap.objs.size<=c
 hd:X.calm=true->X.A.handled=none
 frames:X.A.frames=some X.stack
 stk:X.stack=X.outer\/(X.stack=X.env::X.outer/\X.env.frame=some X.env.locals)
 exf:∀ b∈X.ex,b≠X.env.locals/\∀ x c,X.env.cells.lookup x=some c->c≠b
 bs:∀ b o,X.base.get? b=some o->X.DO.heap.get? b=some o/\X.H_0 b=none
 bsz:X.base.objs.size<=X.DO.heap.objs.size
 Jx:∀ b o,X.base.get? b=some o->b∉X.ex
 JH:∀ b∈X.ex,b∉X.fs
 xF:X.DO.heap.FunFrames X.base X.outer
 frf:∀ b∈X.fs,X.H_0 b=none
structure bN(X:Cx)(pins:List (Addr×Obj))(σ:List (Option V))(H:Hp)(s:Shared):Prop where
 ok:X.Ok
 os:s.os=X.DO.os
 bare:AllBare s.gens
 base:Un X.fs X.ex X.H_0 H X.DO.heap s.heap
 loc:∃ m,s.heap.Ns X.env.locals m/\∀ (i:Nat) (x:Str) (v:V),X.N[i]?=some x->σ[i]?=some (some v)->Vis X.env.scope x->∃ u,cJ v u/\SI X.env s.heap m x u
 cell:∀ x c,X.env.cells.lookup x=some c->∃ v,s.heap.IsCell c v
 free:H X.env.locals=none
 mP:∀ x c,X.env.cells.lookup x=some c->H c=none
 pin:∀ p∈X.pn++pins,s.heap.get? p.1=some p.2/\H p.1=none/\p.1≠X.env.locals/\p.1∉X.fs/\∀ v,p.2.data≠.cell v
 eE:sS X.prog X.w H s.heap
 len:σ.length=X.N.length
section
variable {X:Cx}{pins:List (Addr×Obj)}{σ:List (Option V)}{H H':Hp}{s:Shared}{h':Heap}
theorem Cx.Ok.Sv(ok:X.Ok){b:Addr}{o:Obj}(e:X.base.get? b=some o):b∉X.fs:=fun hb=>by
 have:=(ok.xF.mem hb).1
 rw [e] at this;cases this
theorem bN.bs(I:bN X pins σ H s):∀ b o,X.base.get? b=some o->s.heap.get? b=some o/\H b=none:=fun b o e =>
 ⟨I.base.keep b o (I.ok.bs b o e).1 (I.ok.bs b o e).2 (I.ok.Sv e) (I.ok.Jx b o e),I.base.free b o (I.ok.bs b o e).1 (I.ok.bs b o e).2 (I.ok.Jx b o e)⟩
theorem bN.bk(I:bN X pins σ H s):∀ b o,X.base.get? b=some o->s.heap.get? b=some o:=fun b o e=>(I.bs b o e).1
theorem bN.mod(I:bN X pins σ H s):Mod X.K X.mg X.base:=I.ok.mod
theorem bN.kIn(I:bN X pins σ H s):X.K.In s.heap:=I.ok.mod.kin.keeps I.bk
theorem bN.lt(I:bN X pins σ H s):X.env.locals<s.heap.objs.size:=let ⟨_,hn,_⟩:=I.loc;hn.lt
theorem bN.sz(I:bN X pins σ H s):X.DO.heap.objs.size<=s.heap.objs.size:=Nat.le_trans I.ok.above (Nat.le_of_lt I.lt)
theorem bN.Sz(I:bN X pins σ H s){a:Addr}(h:s.heap.objs.size<=a):a∉X.fs:=fun hb=>by
 obtain ⟨_,o,ho,_⟩:=I.ok.xF.mem hb
 exact absurd (Nat.lt_of_lt_of_le (Heap.lt_size ho) (Nat.le_trans I.sz h)) (Nat.lt_irrefl _)
theorem bN.cne(I:bN X pins σ H s):∀ x c,X.env.cells.lookup x=some c->c≠X.env.locals:=fun x c e z=>by
 obtain ⟨v,o,ho,hd⟩:=I.cell x c e
 obtain ⟨m,⟨o',es,ep,ho',hd',_⟩,_⟩:=I.loc
 rw [z,ho'] at ho;cases ho;rw [hd'] at hd;cases hd
theorem bN.xF(I:bN X pins σ H s):s.heap.FunFrames X.base X.outer:=by
 have all:∀ (l:List Env),(∀ b∈rS l,b∈X.fs)->X.DO.heap.FunFrames X.base l->s.heap.FunFrames X.base l:=by
  intro l
  induction l with
  | nil=>intro _ _;trivial
  | cons env r ih =>
   intro hs hl
   obtain ⟨hk,⟨L,o,hf,hn,ho,hd⟩,hr⟩:=hl
   have hL:L∈X.fs:=hs L (by unfold rS;rw [List.filterMap_cons,hf];exact List.mem_cons_self)
   obtain ⟨sl,e⟩:=I.base.slot L o ho (I.ok.frf L hL) hL fun z=>I.ok.JH L z hL
   exact ⟨hk,⟨L,_,hf,hn,e,hd⟩,ih (fun b hb=>hs b (by unfold rS;rw [List.filterMap_cons,hf];exact mem_cons_of_mem _ hb)) hr⟩
 exact all X.outer (fun _ hb=>hb) I.ok.xF
theorem bN.stack(I:bN X pins σ H s):s.heap.FunFrames X.base X.stack:=by
 rcases I.ok.stk with e|⟨e,hf⟩
 ·rw [e];exact I.xF
 ·rw [e]
  obtain ⟨m,hn,_⟩:=I.loc
  refine .cons (by rw [I.ok.kind];decide) hf hn ?_ I.xF
  exact Heap.get?_none_of_le (Nat.le_trans I.ok.bsz I.ok.above)
theorem bN.LQ(I:bN X pins σ H s):∀ b∈rS X.stack,b∈X.env.locals::X.fs:=fun b hb=>by
 rcases I.ok.stk with e|⟨e,hf⟩
 ·rw [e] at hb;exact mem_cons_of_mem _ hb
 ·rw [e] at hb
  unfold rS at hb
  rw [List.filterMap_cons,hf] at hb
  exact hb
theorem bN.D8(I:bN X pins σ H s):∀ b∈rS X.stack,H b=none:=fun b hb=>by
 rcases mem_cons.mp (I.LQ b hb) with e|hb
 ·rw [e];exact I.free
 ·obtain ⟨_,o,ho,_⟩:=I.ok.xF.mem hb
  exact I.base.free b o ho (I.ok.frf b hb) fun z=>I.ok.JH b z hb
theorem bN.step{g':Array GenState}{t':Nat}{d':Drawn}{ch:List Addr}(I:bN X pins σ H s)
 (hch:∀ b∈ch,(b∈X.ex\/X.DO.heap.objs.size<=b)/\b≠X.env.locals/\(∀ x c,X.env.cells.lookup x=some c->c≠b)/\∀ p∈X.pn++pins,p.1≠b)
 (keep:∀ b o,b≠X.env.locals->b∉X.fs->b∉ch->s.heap.get? b=some o->H b=none->h'.get? b=some o)
 (slot:∀ b o,b≠X.env.locals->b∈X.fs->b∉ch->s.heap.get? b=some o->H b=none->∃ sl,h'.get? b=some { o with slots:=sl }) (free:∀ b o,b∉ch->s.heap.get? b=some o->H b=none->H' b=none)
 (there:∀ b o,b∉ch->s.heap.get? b=some o->∃ o',h'.get? b=some o')
 (DT:∀ b xs,H b=some (.tup xs)->H' b=some (.tup xs)) (Ar:∀ b o u,H b=some (.mH o u)->H' b=some (.mH o u)) (DP:∀ b ps,H b=some (.tbl ps)->∃ more,H' b=some (.tbl (ps++more)))
 (ns:∀ m,s.heap.Ns X.env.locals m->h'.Ns X.env.locals m) (eE:sS X.prog X.w H' h') (hg:AllBare g') :
 bN X pins σ H' { s with heap:=h',gens:=g',drawn:=d',toks:=t' }:=by
 have neL:∀ b o,X.DO.heap.get? b=some o->b≠X.env.locals:=fun b o e=>Nat.ne_of_lt (Nat.lt_of_lt_of_le (Heap.lt_size e) I.ok.above)
 have neC:∀ b o,X.DO.heap.get? b=some o->b∉X.ex->b∉ch:=fun b o e hx hb=>by
  rcases (hch b hb).1 with z|z
  ·exact hx z
  ·exact absurd (Nat.lt_of_lt_of_le (Heap.lt_size e) z) (Nat.lt_irrefl _)
 have cellK:∀ x c,X.env.cells.lookup x=some c->∀ v,s.heap.IsCell c v->h'.IsCell c v:=fun x c e v ⟨o,ho,hd⟩=>by
  have nch:c∉ch:=fun z=>(hch c z).2.2.1 x c e rfl
  by_cases hc:c∈X.fs
  ·obtain ⟨sl,q⟩:=slot c o (I.cne x c e) hc nch ho (I.mP x c e)
   exact ⟨_,q,hd⟩
  ·exact ⟨o,keep c o (I.cne x c e) hc nch ho (I.mP x c e),hd⟩
 refine ⟨I.ok,I.os,hg,⟨fun b o e n hb hx=>?_,fun b o e n hb hx=>?_,fun b o e n hx=>?_,fun b o e hx=>?_,fun b xs e=>DT b xs (I.base.DT b xs e),fun b o xs e=>Ar b o xs (I.base.Ar b o xs e),fun b ps e=>?_⟩,?_,fun x c e=>?_,?_,fun x c e=>?_,fun p hp=>?_,eE,I.len⟩
 ·exact keep b o (neL b o e) hb (neC b o e hx) (I.base.keep b o e n hb hx) (I.base.free b o e n hx)
 ·obtain ⟨sl,e1⟩:=I.base.slot b o e n hb hx
  obtain ⟨sl',e2⟩:=slot b _ (neL b o e) hb (neC b o e hx) e1 (I.base.free b o e n hx)
  exact ⟨sl',e2⟩
 ·obtain ⟨o',e1⟩:=I.base.there b o e hx
  exact free b o' (neC b o e hx) e1 (I.base.free b o e n hx)
 ·obtain ⟨o',e1⟩:=I.base.there b o e hx
  exact there b o' (neC b o e hx) e1
 ·obtain ⟨m1,e1⟩:=I.base.DP b ps e
  obtain ⟨m2,e2⟩:=DP b _ e1
  exact ⟨m1++m2,by rw [e2,Array.append_assoc]⟩
 ·obtain ⟨m,hn,hl⟩:=I.loc
  refine ⟨m,ns m hn,fun i x v e1 e2 e3=>?_⟩
  obtain ⟨u,r,l⟩:=hl i x v e1 e2 e3
  refine ⟨u,r,?_⟩
  rcases l with l|⟨k,c,e,z⟩
  ·exact .inl l
  ·exact .inr ⟨k,c,e,cellK x c e _ z⟩
 ·obtain ⟨v,z⟩:=I.cell x c e
  exact ⟨v,cellK x c e v z⟩
 ·obtain ⟨m,⟨o,_,_,ho,_⟩,_⟩:=I.loc
  exact free _ o (fun z=>(hch _ z).2.1 rfl) ho I.free
 ·obtain ⟨v,o,ho,hd⟩:=I.cell x c e
  exact free c o (fun z=>(hch c z).2.2.1 x c e rfl) ho (I.mP x c e)
 ·obtain ⟨e,n,ne,nf,d⟩:=I.pin p hp
  have nch:p.1∉ch:=fun z=>(hch p.1 z).2.2.2 p hp rfl
  exact ⟨keep p.1 p.2 ne nf nch e n,free p.1 p.2 nch e n,ne,nf,d⟩
theorem bN.un{t':Nat}(I:bN X pins σ H s)(u:Un X.fs [] H H' s.heap h')(eE:sS X.prog X.w H' h'):bN X pins σ H' { s with heap:=h',toks:=t' }:=by
 obtain ⟨m,⟨o,es,ep,ho,r⟩,_⟩:=id I.loc
 obtain ⟨sl,hL⟩:=u.any ho I.free (by simp)
 exact I.step (g':=s.gens) (d':=s.drawn) (ch:=[]) (fun _ z=>nomatch z) (fun b o _ hb _ e n=>u.keep b o e n hb (by simp)) (fun b o _ hb _ e n=>u.slot b o e n hb (by simp)) (fun b o _ e n=>u.free b o e n (by simp)) (fun b o _ e=>u.there b o e (by simp)) u.DT u.Ar u.DP (fun m' hm=>by
  obtain ⟨o',es',ep',ho',r'⟩:=hm
  rw [ho] at ho';cases ho'
  exact ⟨_,es',ep',hL,r'⟩) eE I.bare
theorem bN.call{g':Array GenState}{t':Nat}{d':Drawn}{ch:List Addr}(I:bN X pins σ H s)(u:Un (rS X.stack) ch H H' s.heap h')(eE:sS X.prog X.w H' h')(hg:AllBare g')
 (hch:∀ b∈ch,(b∈X.ex\/X.DO.heap.objs.size<=b)/\b≠X.env.locals/\(∀ x c,X.env.cells.lookup x=some c->c≠b)/\∀ p∈X.pn++pins,p.1≠b) :
 bN X pins σ H' { s with heap:=h',gens:=g',drawn:=d',toks:=t' }:=by
 obtain ⟨m,⟨o,es,ep,ho,r⟩,_⟩:=id I.loc
 obtain ⟨sl,hL⟩:=u.any ho I.free fun z=>(hch _ z).2.1 rfl
 exact I.step (ch:=ch) hch (fun b o hL hb hc e n=>u.keep b o e n (fun z=>(mem_cons.mp (I.LQ b z)).elim hL hb) hc) (fun b o _ _ hc e n=>u.any e n hc) (fun b o hc e n=>u.free b o e n hc) (fun b o hc e=>u.there b o e hc) u.DT u.Ar u.DP (fun m' hm=>by
  obtain ⟨o',es',ep',ho',r'⟩:=hm
  rw [ho] at ho';cases ho'
  exact ⟨_,es',ep',hL,r'⟩) eE hg
theorem bN.turned{t':Nat}{it:Addr}(I:bN X pins σ H s)(k:∀ b o,b≠it->s.heap.get? b=some o->h'.get? b=some o)(hn:H it=none)(hL:it≠X.env.locals)
 (h1:it∈X.ex\/X.DO.heap.objs.size<=it) (h2:∀ x c,X.env.cells.lookup x=some c->c≠it) (h3:∀ p∈X.pn++pins,p.1≠it):bN X pins σ H { s with heap:=h',toks:=t' }:=by
 have nit:∀ b u,H b=some u->b≠it:=fun b u e z=>by rw [z,hn] at e;cases e
 refine I.step (g':=s.gens) (d':=s.drawn) (ch:=[it]) (fun b hb=>?_) (fun b o _ _ hc e _=>k b o (fun z=>hc (by simp [z])) e) (fun b o _ _ hc e _=>⟨o.slots,k b o (fun z=>hc (by simp [z])) e⟩) (fun _ _ _ _ n=>n)
  (fun b o hc e=>⟨o,k b o (fun z=>hc (by simp [z])) e⟩) (fun _ _ e=>e) (fun _ _ _ e=>e) (fun b ps e=>⟨#[],by rw [e];simp⟩) (fun m hm=>?_) (fun b u e=>?_) I.bare
 ·have e:b=it:=by simpa using hb
  subst e
  exact ⟨h1,hL,h2,h3⟩
 ·obtain ⟨o,es,ep,ho,r⟩:=hm
  exact ⟨o,es,ep,k _ o (Ne.symm hL) ho,r⟩
 ·refine (I.eE b u e).sE (fun c v hc q=>k c v ?_ q) (fun _ q=>q) fun _ _ q=>q
  rcases hc with z|z
  ·rw [z];exact nit b u e
  ·exact nit c _ z
theorem bN.tok(I:bN X pins σ H s)(t:Nat):bN X pins σ H { s with toks:=t }:=I.un (h':=s.heap) (t':=t) Un.refl I.eE
theorem bN.kept{t':Nat}(I:bN X pins σ H s)(k:∀ b u,s.heap.get? b=some u->h'.get? b=some u):bN X pins σ H { s with heap:=h',toks:=t' }:=I.un (Un.kept k) (I.eE.kept k)
theorem bN.laid{a:Addr}{o:HO}{t':Nat}(I:bN X pins σ H s)(k:∀ b u,s.heap.get? b=some u->h'.get? b=some u)(hp:s.heap.objs.size<=a)(new:iF X.prog X.w (a6 H a o) h' a o) :
 bN X pins σ (a6 H a o) { s with heap:=h',toks:=t' }:=I.un (Un.laid k hp (I.eE.fresh hp)) (I.eE.laid k hp new)
theorem bN.write{x e:Addr}{o:HO}{t':Nat}(I:bN X pins σ H s)(mu:Mut (H x))(he:e=x\/H e=some (.own x))(k:∀ b u,b≠e->s.heap.get? b=some u->h'.get? b=some u)(heo:∃ u,h'.get? e=some u)
 (new:iF X.prog X.w (a6 H x o) h' x o):bN X pins σ (a6 H x o) { s with heap:=h',toks:=t' }:=I.un (Un.write mu he k heo) (I.eE.write mu he k heo new)
theorem bN.weak{σ':List (Option V)}(I:bN X pins σ H s)(hl:σ'.length=σ.length)(w:∀ (i:Nat) v,σ'[i]?=some (some v)->σ[i]?=some (some v)):bN X pins σ' H s :=
 ⟨I.ok,I.os,I.bare,I.base,let ⟨m,hn,hl'⟩:=I.loc;⟨m,hn,fun i x v e1 e2 e3=>hl' i x v e1 (w i v e2) e3⟩,I.cell,I.free,I.mP,I.pin,I.eE,hl.trans I.len⟩
theorem bN.Mt{pins':List (Addr×Obj)}(I:bN X pins σ H s)(h:∀ p∈pins',s.heap.get? p.1=some p.2/\H p.1=none/\p.1≠X.env.locals/\p.1∉X.fs/\∀ v,p.2.data≠.cell v):bN X pins' σ H s :=
 ⟨I.ok,I.os,I.bare,I.base,I.loc,I.cell,I.free,I.mP,fun p hp=>(mem_append.mp hp).elim (fun z=>I.pin p (List.mem_append_left _ z)) (h p),I.eE,I.len⟩
theorem Es{N:List Str}(hN:N.Nodup){i j:Nat}{x:Str}(a:N[i]?=some x)(b:N[j]?=some x):i=j:=by
 obtain ⟨h1,e1⟩:=List.getElem?_eq_some_iff.mp a
 obtain ⟨h2,e2⟩:=List.getElem?_eq_some_iff.mp b
 exact (List.getElem_inj hN).mp (e1.trans e2.symm)
theorem HZ{M:Model}{A:Around}{E:Value->Shared->Prop}{i:Nat}{x:Str}{v:V}{u:Value}{Q:Unit->Shared->Prop}(I:bN X pins σ H s)(hN:X.N.Nodup)(hi:X.N[i]?=some x)(hx:Loc X.env.scope x)(r:cJ v u)
 (h:∀ s',bN X pins (σ.set i (some v)) H s'->(∃ a,Heap.SameBut a s.heap s'.heap/\(a=X.env.locals\/X.env.cells.lookup x=some a))->Q () s') (hf:X.fn x=true\/X.env.scope.names.lookup x=some .local:=by first|exact .inl rfl|exact .inr rfl|assumption):wpAny M A (storeName X.env x u) Q E s:=by
 obtain ⟨m,hn,hl⟩:=id I.loc
 have hcls:(X.env.scope.kind==.class||(X.env.scope.kind==.module&&X.env.locals !=X.env.globals))=false:=by rw [I.ok.kind];rfl
 have hiσ:i<σ.length:=by rw [I.len];exact (List.getElem?_eq_some_iff.mp hi).1
 have cne:=I.cne
 have tracked:∀ {a:Addr} {h':Heap},(∃ o,s.heap.get? a=some o/\H a=none)->Heap.SameBut a s.heap h'->sS X.prog X.w H h':=fun {a h'} ha hs b ob e=>by
  obtain ⟨_,_,hfree⟩:=ha
  refine (I.eE b ob e).sE (fun c w' hc q=>(hs.2 c ?_).trans q) (fun _ q=>q) fun _ _ q=>q
  rintro rfl
  rcases hc with rfl|hc
  ·rw [hfree] at e;cases e
  ·rw [hfree] at hc;cases hc
 rcases hx with hk|hk
 ·refine wpAny_storeName_local hk hn (fun h' hn' hs=>?_) hcls
  obtain ⟨oL,_,_,hoL,_⟩:=id hn
  refine h _ ⟨I.ok,I.os,I.bare,⟨fun b o e n hb hx=>?_,fun b o e n hb hx=>?_,I.base.free,fun b o e hx=>?_,I.base.DT,I.base.Ar,I.base.DP⟩,⟨_,hn',fun j y v' e1 e2 e3=>?_⟩,fun y c e=>?_,I.free,I.mP,fun p hp=>?_,tracked ⟨oL,hoL,I.free⟩ hs,by simpa using I.len⟩ ⟨_,hs,.inl rfl⟩
  ·exact (hs.2 b (Nat.ne_of_lt (Nat.lt_of_lt_of_le (Heap.lt_size e) I.ok.above))).trans (I.base.keep b o e n hb hx)
  ·obtain ⟨sl,e1⟩:=I.base.slot b o e n hb hx
   exact ⟨sl,(hs.2 b (Nat.ne_of_lt (Nat.lt_of_lt_of_le (Heap.lt_size e) I.ok.above))).trans e1⟩
  ·obtain ⟨o',e1⟩:=I.base.there b o e hx
   exact ⟨o',(hs.2 b (Nat.ne_of_lt (Nat.lt_of_lt_of_le (Heap.lt_size e) I.ok.above))).trans e1⟩
  ·by_cases hj:j=i
   ·subst hj
    rw [hi] at e1;cases e1
    rw [List.getElem?_set_self hiσ] at e2
    cases e2
    exact ⟨u,r,.inl ⟨hk,by simp⟩⟩
   ·rw [List.getElem?_set_ne (Ne.symm hj)] at e2
    obtain ⟨u',r',q⟩:=hl j y v' e1 e2 e3
    refine ⟨u',r',?_⟩
    rcases q with ⟨k,e⟩|⟨k,c,e,z⟩
    ·refine .inl ⟨k,?_⟩
     have:y≠x:=fun e=>hj (Es hN e1 (e▸hi))
     simp [this,e]
    ·exact .inr ⟨k,c,e,z.sameBut hs (cne y c e)⟩
  ·obtain ⟨w',z⟩:=I.cell y c e
   exact ⟨w',z.sameBut hs (cne y c e)⟩
  ·obtain ⟨e,n,ne,nf,d⟩:=I.pin p hp
   exact ⟨(hs.2 p.1 ne).trans e,n,ne,nf,d⟩
 ·have hfn:X.fn x=true:=by
   rcases hf with z|z
   ·exact z
   ·rw [z] at hk;cases hk
  obtain ⟨c,hc⟩:=I.ok.has x (.inl hk)
  obtain ⟨w',z⟩:=I.cell x c hc
  refine wpAny_storeName_cell I.ok.kind hk hc z (fun h' hc' hs=>?_)
  obtain ⟨oc,hoc,hocd⟩:=id z
  refine h { s with heap:=h' } ⟨I.ok,I.os,I.bare,⟨fun b o e n hb hx=>?_,fun b o e n hb hx=>?_,I.base.free,fun b o e hx=>?_,I.base.DT,I.base.Ar,I.base.DP⟩,⟨m,hn.sameBut hs (Ne.symm (cne x c hc)),fun j y v' e1 e2 e3=>?_⟩,fun y c' e=>?_,I.free,I.mP,fun p hp=>?_,tracked ⟨oc,hoc,I.mP x c hc⟩ hs,by simpa using I.len⟩ ⟨c,hs,.inr hc⟩
  ·exact (hs.2 b (Nat.ne_of_lt (Nat.lt_of_lt_of_le (Heap.lt_size e) (I.ok.cab x c hfn hc)))).trans (I.base.keep b o e n hb hx)
  ·obtain ⟨sl,e1⟩:=I.base.slot b o e n hb hx
   exact ⟨sl,(hs.2 b (Nat.ne_of_lt (Nat.lt_of_lt_of_le (Heap.lt_size e) (I.ok.cab x c hfn hc)))).trans e1⟩
  ·obtain ⟨o',e1⟩:=I.base.there b o e hx
   exact ⟨o',(hs.2 b (Nat.ne_of_lt (Nat.lt_of_lt_of_le (Heap.lt_size e) (I.ok.cab x c hfn hc)))).trans e1⟩
  ·by_cases hj:j=i
   ·subst hj
    rw [hi] at e1;cases e1
    rw [List.getElem?_set_self hiσ] at e2
    cases e2
    exact ⟨u,r,.inr ⟨.inl hk,c,hc,hc'⟩⟩
   ·rw [List.getElem?_set_ne (Ne.symm hj)] at e2
    obtain ⟨u',r',q⟩:=hl j y v' e1 e2 e3
    refine ⟨u',r',?_⟩
    rcases q with q|⟨k,c',e,z'⟩
    ·exact .inl q
    ·refine .inr ⟨k,c',e,z'.sameBut hs ?_⟩
     rintro rfl
     exact hj (Es hN e1 (I.ok.inj _ _ _ e hc▸hi))
  ·by_cases hcc:c'=c
   ·subst hcc;exact ⟨_,hc'⟩
   ·obtain ⟨w2,z2⟩:=I.cell y c' e
    exact ⟨w2,z2.sameBut hs hcc⟩
  ·obtain ⟨e,n,ne,nf,d⟩:=I.pin p hp
   refine ⟨(hs.2 p.1 ?_).trans e,n,ne,nf,d⟩
   intro q
   rw [q,hoc] at e
   have q':oc=p.2:=Option.some.inj e
   exact d w' (by rw [<-q'];exact hocd)
theorem Ft{M:Model}{A:Around}{E:Value->Shared->Prop}{i:Nat}{x:Str}{v:V}{u:Value}{Q:Unit->Shared->Prop}(I:bN X pins σ H s)(hN:X.N.Nodup)(hi:X.N[i]?=some x)(hx:Loc X.env.scope x)(r:cJ v u)
 (h:∀ s',bN X pins (σ.set i (some v)) H s'->Q () s') (hf:X.fn x=true\/X.env.scope.names.lookup x=some .local:=by first|exact .inl rfl|exact .inr rfl|assumption):wpAny M A (storeName X.env x u) Q E s :=
 HZ I hN hi hx r (fun s' I' _=>h s' I') hf
theorem bN.QE{s':Shared}{ch:List Addr}(I:bN X pins σ H s)(ho:s'.os=s.os)(u:Un (rS X.stack) ch H H' s.heap s'.heap)(eE:sS X.prog X.w H' s'.heap)(hg:AllBare s'.gens)
 (hch:∀ b∈ch,(b∈X.ex\/X.DO.heap.objs.size<=b)/\b≠X.env.locals/\(∀ x c,X.env.cells.lookup x=some c->c≠b)/\∀ p∈X.pn++pins,p.1≠b):bN X pins σ H' s':=by
 obtain ⟨h',g',d',t',o'⟩:=s'
 have e:o'=s.os:=ho
 subst e
 exact I.call (g':=g') (t':=t') (d':=d') u eE hg hch
end
abbrev XK:=Value->Option Addr->Hp->Prop
abbrev St:=List (Option V)
abbrev VK:=V->Hp->Prop
abbrev TE:=St->Hp->VK->Prop
abbrev TT:=St->Hp->(Bool->Hp->Prop)->Prop
abbrev TA:=St->Hp->(List V->Hp->Prop)->Prop
structure vT where
 nx:St->Hp->Prop
 rt:VK
 bk:St->Hp->Prop:=fun _ _=>False
 ct:St->Hp->Prop:=fun _ _=>False
abbrev TS:=vT->St->Hp->Prop
inductive EP(X:Cx)(pins:List (Addr×Obj))(σ:St)(Q:VK)(u:Value)(s':Shared):Prop
 | mk:∀ v H',bN X pins σ H' s'->cJ v u->Q v H'->EP X pins σ Q u s'
inductive TP(X:Cx)(pins:List (Addr×Obj))(σ:St)(Q:Bool->Hp->Prop)(b:Bool)(s':Shared):Prop
 | mk:∀ H',bN X pins σ H' s'->Q b H'->TP X pins σ Q b s'
inductive AP(X:Cx)(pins:List (Addr×Obj))(σ:St)(Q:List V->Hp->Prop)(us:List Value)(s':Shared):Prop
 | mk:∀ vs H',bN X pins σ H' s'->b9 vs us->Q vs H'->AP X pins σ Q us s'
def SP(X:Cx)(pins:List (Addr×Obj))(D:vT)(f:Flow)(s':Shared):Prop :=
 match f with
 | .next=>∃ σ' H',bN X pins σ' H' s'/\D.nx σ' H'
 | .brk=>∃ σ' H',bN X pins σ' H' s'/\D.bk σ' H'
 | .cont=>∃ σ' H',bN X pins σ' H' s'/\D.ct σ' H'
 | .ret u=>∃ v σ' H',bN X pins σ' H' s'/\cJ v u/\D.rt v H'
def PE(X:Cx)(e:Expr)(t:TE):Prop :=
 ∀ (pins:List (Addr×Obj)) (s:Shared) (σ:St) (H:Hp) (Q:VK),bN X pins σ H s->t σ H Q->wpAny (model X.prog X.w) X.A (eval e X.env) (EP X pins σ Q) X.xe s
def PT(X:Cx)(e:Expr)(t:TT):Prop :=
 ∀ (pins:List (Addr×Obj)) (s:Shared) (σ:St) (H:Hp) (Q:Bool->Hp->Prop),bN X pins σ H s->t σ H Q->wpAny (model X.prog X.w) X.A (isTrue e X.env (eval e X.env)) (TP X pins σ Q) X.xe s
def PW(X:Cx)(e:Expr)(t:TT):Prop :=
 ∀ (whole:Sem Value) (pins:List (Addr×Obj)) (s:Shared) (σ:St) (H:Hp) (Q:Bool->Hp->Prop),bN X pins σ H s->t σ H Q->wpAny (model X.prog X.w) X.A (isTrue e X.env whole) (TP X pins σ Q) X.xe s
theorem PW.pt{X:Cx}{e:Expr}{t:TT}(h:PW X e t):PT X e t:=h _
def PA(X:Cx)(es:List Expr)(t:TA):Prop :=
 ∀ (pos:Pos) (pins:List (Addr×Obj)) (s:Shared) (σ:St) (H:Hp) (Q:List V->Hp->Prop),bN X pins σ H s->t σ H Q->wpAny (model X.prog X.w) X.A (spliced (backTo pos (starEach es X.env))) (AP X pins σ Q) X.xe s
def PS(X:Cx)(st:Stmt)(t:TS):Prop :=
 ∀ (pins:List (Addr×Obj)) (s:Shared) (σ:St) (H:Hp) (D:vT),bN X pins σ H s->t D σ H->wpAny (model X.prog X.w) X.A (exec st X.env) (SP X pins D) X.xe s
def PSs(X:Cx)(st:List Stmt)(t:TS):Prop :=
 ∀ (pins:List (Addr×Obj)) (s:Shared) (σ:St) (H:Hp) (D:vT),bN X pins σ H s->t D σ H->wpAny (model X.prog X.w) X.A (execs st X.env) (SP X pins D) X.xe s
theorem eD{α:Type}{t:Sem α}{Q Q':α->Shared->Prop}{M:Model}{A:Around}{E:Value->Shared->Prop}{s:Shared}(h:wpAny M A t Q E s)(hQ:∀ a s,Q a s->Q' a s):wpAny M A t Q' E s:=wpAny_mono h hQ fun _ _ x=>x
section
variable {X:Cx}
inductive IZ(i:Nat)(σ:St)(H:Hp)(Q:VK):Prop
 | mk:∀ v,σ[i]?=some (some v)->Q v H->IZ i σ H Q
def tC(v:V):TE:=fun _ H Q=>Q v H
theorem RH{i:Nat}{x:Str}{pos:Pos}(hN:X.N[i]?=some x)(hv:Vis X.env.scope x)(hd:(x==("__debug__":Str))=false:=by decide)(hcd:(x==("__classdict__":Str))=false:=by decide):PE X (.Name x pos) (IZ i):=by
 intro pins s σ H Q I h
 obtain ⟨v,e,h⟩:=h
 obtain ⟨m,hn,hl⟩:=I.loc
 obtain ⟨u,r,l⟩:=hl i x v hN e hv
 have fin:EP X pins σ Q u s:=⟨v,H,I,r,h⟩
 rcases l with ⟨hk,hm⟩|⟨hk,c,hc,hcell⟩
 ·exact wpAny_Name (wpAny_loadName_local I.ok.kind hk hn hm fin) hd
 ·rcases hk with hk|hk
  ·exact wpAny_Name (wpAny_loadName_cell I.ok.kind hk hc hcell fin) hd
  ·exact wpAny_Name (wpAny_loadName_free I.ok.kind hk hc hcell fin hcd) hd
theorem aG{i j pos}:PE X (.Constant (.int i) j pos) (tC (.int i)):=fun _ _ _ H _ I h=>wpAny_Constant_int ⟨.int i,H,I.tok _,⟨_,rfl⟩,h⟩
theorem mG{b j pos}:PE X (.Constant (.bool b) j pos) (tC (.bl b)):=fun _ _ _ H _ I h=>Constant_bool ⟨.bl b,H,I,rfl,h⟩
theorem Co{j pos}:PE X (.Constant .none j pos) (tC .eX):=fun _ _ _ H _ I h=>Constant_none ⟨.eX,H,I,rfl,h⟩
theorem OI{x j pos}:PE X (.Constant (.str x) j pos) (tC (.str x)):=fun _ _ _ H _ I h=>Calls.Constant_str ⟨.str x,H,I.tok _,⟨_,rfl⟩,h⟩
def Gl(X:Cx)(x:Str):Prop:=X.env.kindOf x=some .globalImplicit
theorem nQ{E:Value->Shared->Prop}{pins:List (Addr×Obj)}{s:Shared}{σ:St}{H:Hp}{x:Str}{u:Value}{pos:Pos}{Q:Value->Shared->Prop}(I:bN X pins σ H s)(hg:Gl X x)(hm:X.mg x=some u)(h:Q u s)
 (hd:(x==("__debug__":Str))=false:=by decide):wpAny (model X.prog X.w) X.A (eval (.Name x pos) X.env) Q E s :=
 Calls.Name_function_global I.ok.kind hg (Calls.loadGlobal_global (by rw [I.ok.glob];exact I.mod.glob.keeps I.bk) hm h) hd
theorem LB{E:Value->Shared->Prop}{pins:List (Addr×Obj)}{s:Shared}{σ:St}{H:Hp}{x:Str}{u:Value}{pos:Pos}{Q:Value->Shared->Prop}(I:bN X pins σ H s)(hg:Gl X x)(hm:X.mg x=none)(hv:bootBuiltins x=some u)(h:Q u s)
 (hn:x≠"__name__":=by decide) (hd:(x==("__debug__":Str))=false:=by decide):wpAny (model X.prog X.w) X.A (eval (.Name x pos) X.env) Q E s:=by
 obtain ⟨mb,h1,h2⟩:=I.mod.blt
 exact Calls.Name_function_global I.ok.kind hg (Calls.loadGlobal_builtin (by rw [I.ok.glob];exact I.mod.glob.keeps I.bk) hm (by rw [I.ok.blt];exact h1.keeps I.bk) ((h2 x hn).trans hv) h) hd
theorem MO{x:Str}{v:V}{u:Value}{pos:Pos}(hg:Gl X x)(hm:X.mg x=some u)(r:cJ v u)(hd:(x==("__debug__":Str))=false:=by decide):PE X (.Name x pos) (tC v) :=
 fun _ _ _ H _ I h=>nQ I hg hm ⟨v,H,I,r,h⟩ hd
variable {a b:Expr}{ta tb:TE}{pos:Pos}
def PC(X:Cx)(op:CmpOp)(a b:Expr)(t:TE):Prop :=
 ∀ (pins:List (Addr×Obj)) (s:Shared) (σ:St) (H:Hp) (Q:VK),bN X pins σ H s->t σ H Q →
  wpAny (model X.prog X.w) X.A (eval a X.env) (fun v s₁=>wpAny (model X.prog X.w) X.A (eval b X.env) (fun u s₂=>wpAny (model X.prog X.w) X.A (compareOp op v u) (EP X pins σ Q) X.xe s₂) X.xe s₁) X.xe s
theorem N4(b:Expr){op:CmpOp}(h:op≠.In)(h2:op≠.NotIn):behindInMarks op b=false:=by
 have e1:(op==CmpOp.In)=false:=by cases op<;>first|rfl|exact absurd rfl h
 have e2:(op==CmpOp.NotIn)=false:=by cases op<;>first|rfl|exact absurd rfl h2
 cases b<;>simp [behindInMarks,e1,e2]
def S9(ta:TE):TE:=fun σ H Q=>ta σ H fun x H1=>Q (.bl (decide (x=.eX))) H1
def Sm(ta:TE):TE:=fun σ H Q=>ta σ H fun x H1=>Q (.bl (!decide (x=.eX))) H1
theorem cJ.Lg{x:V}{v:Value}(r:cJ x v):(v==Value.none)=decide (x=.eX):=by
 cases x with
 | eX=>cases r;rfl
 | bl _=>cases r;rfl
 | int _=>obtain ⟨t,rfl⟩:=r;rfl
 | str _=>obtain ⟨t,rfl⟩:=r;rfl
 | byt _=>obtain ⟨t,rfl⟩:=r;rfl
 | flt _=>obtain ⟨t,rfl⟩:=r;rfl
 | ref _=>cases r;rfl
 | ty _=>cases r;rfl
theorem CI{j pos'}(ha:PE X a ta):PC X .Is a (.Constant .none j pos') (S9 ta):=by
 intro pins s σ H Q I h
 refine eD (ha pins s σ H _ I h) fun v s1 ⟨x,H1,I1,r1,q1⟩=>?_
 exact Constant_none (is_none_gen ⟨.bl _,H1,I1,by rw [r1.Lg];rfl,q1⟩)
theorem Qm{j pos'}(ha:PE X a ta):PC X .IsNot a (.Constant .none j pos') (Sm ta):=by
 intro pins s σ H Q I h
 refine eD (ha pins s σ H _ I h) fun v s1 ⟨x,H1,I1,r1,q1⟩=>?_
 exact Constant_none (isnot_none_gen ⟨.bl _,H1,I1,by rw [r1.Lg];rfl,q1⟩)
inductive xB(x:V)(Q:Bool->Prop):Prop
 | mk:∀ c,x=.bl c->Q c->xB x Q
def tB(t:TE):TT:=fun σ H Q=>t σ H fun x H1=>xB x fun c=>Q c H1
theorem rY{op:CmpOp}{t:TE}(h:PC X op a b t)(h1:behindInMarks op b=false:=by first|exact N4 _ (by decide) (by decide)|rfl):PT X (.Compare a [op] [b] pos) (tB t):=by
 intro pins s σ H Q I hw
 refine wpAny_isTrue_Compare1 (eD (h pins s σ H _ I hw) fun v s1 h1=>eD h1 fun u s2 h2=>eD h2 fun c s3 ⟨x,H1,I1,r1,q1⟩=>?_) h1
 obtain ⟨d,rfl,q⟩:=q1
 cases r1
 exact wpAny_truthy_bool ⟨H1,I1,q⟩
theorem c2{e:Expr}{t:TE}(h:PE X e t)(he:∀ whole,isTrue e X.env whole=(do let v <-whole;standAt e.pos;holding [v] (truthy v)):=by intro _;rfl):PT X e (tB t):=by
 intro pins s σ H Q I hw
 refine isTrue_plain (eD (h pins s σ H _ I hw) fun v s1 ⟨x,H1,I1,r1,q1⟩=>?_) (he _)
 obtain ⟨d,rfl,q⟩:=q1
 cases r1
 exact wpAny_truthy_bool ⟨H1,I1,q⟩
variable {tA tB':TT}{rest:List Expr}
def SQ(t u:TT):TT:=fun σ H Q=>t σ H fun c H1=>if c=true then u σ H1 Q else Q false H1
def tOr(t u:TT):TT:=fun σ H Q=>t σ H fun c H1=>if c=true then Q true H1 else u σ H1 Q
def SX(t:TT):TT:=fun σ H Q=>t σ H fun c H1=>Q (!c) H1
theorem BM(ha:PT X a tA):PW X (.BoolOp .And [a] pos) tA:=by
 intro wh pins s σ H Q I h
 refine isTrue_and (eD (ha pins s σ H Q I h) fun c s1 e=>?_)
 cases c with
 | true=>exact isTrue_and_nil e
 | false=>exact e
theorem jD(ha:PT X a tA):PW X (.BoolOp .Or [a] pos) tA:=by
 intro wh pins s σ H Q I h
 refine isTrue_or (eD (ha pins s σ H Q I h) fun c s1 e=>?_)
 cases c with
 | false=>exact isTrue_or_nil e
 | true=>exact e
theorem FN(ha:PT X a tA)(hb:PW X (.BoolOp .And (b::rest) pos) tB'):PW X (.BoolOp .And (a::b::rest) pos) (SQ tA tB'):=by
 intro wh pins s σ H Q I h
 refine isTrue_and (eD (ha pins s σ H _ I h) fun c s1 ⟨H1,I1,q1⟩=>?_)
 cases c with
 | true=>exact hb wh pins s1 σ H1 Q I1 q1
 | false=>exact ⟨H1,I1,q1⟩
theorem kX(ha:PT X a tA)(hb:PW X (.BoolOp .Or (b::rest) pos) tB'):PW X (.BoolOp .Or (a::b::rest) pos) (tOr tA tB'):=by
 intro wh pins s σ H Q I h
 refine isTrue_or (eD (ha pins s σ H _ I h) fun c s1 ⟨H1,I1,q1⟩=>?_)
 cases c with
 | true=>exact ⟨H1,I1,q1⟩
 | false=>exact hb wh pins s1 σ H1 Q I1 q1
theorem jC(ha:PT X a tA):PT X (.UnaryOp .Not a pos) (SX tA):=by
 intro pins s σ H Q I h
 exact isTrue_not (eD (ha pins s σ H (fun c H1=>Q (!c) H1) I h) fun c s1 ⟨H1,I1,q⟩=>⟨H1,I1,q⟩)
def Pc(ta tb:TE):TE:=fun σ H Q=>ta σ H fun x H1=>xB x fun c=>if c=true then tb σ H1 Q else Q (.bl false) H1
def S8(ta tb:TE):TE:=fun σ H Q=>ta σ H fun x H1=>xB x fun c=>if c=true then Q (.bl true) H1 else tb σ H1 Q
def Sl(ta:TE):TE:=fun σ H Q=>ta σ H fun x H1=>xB x fun c=>Q (.bl (!c)) H1
theorem qC{op}{t:TE}(h:PE X a t):PE X (.BoolOp op [a] pos) t:=fun pins s σ H Q I hw=>BoolOp_one (h pins s σ H Q I hw)
theorem vM(ha:PE X a ta)(hb:PE X (.BoolOp .And (b::rest) pos) tb):PE X (.BoolOp .And (a::b::rest) pos) (Pc ta tb):=by
 intro pins s σ H Q I h
 refine BoolOp_and (eD (ha pins s σ H _ I h) fun v s1 ⟨x,H1,I1,r1,q1⟩=>?_)
 obtain ⟨c,rfl,q1⟩:=q1
 cases r1
 refine wpAny_truthy_bool ?_
 cases c with
 | true=>exact hb pins s1 σ H1 Q I1 q1
 | false=>exact ⟨.bl false,H1,I1,rfl,q1⟩
theorem KZ(ha:PE X a ta)(hb:PE X (.BoolOp .Or (b::rest) pos) tb):PE X (.BoolOp .Or (a::b::rest) pos) (S8 ta tb):=by
 intro pins s σ H Q I h
 refine BoolOp_or (eD (ha pins s σ H _ I h) fun v s1 ⟨x,H1,I1,r1,q1⟩=>?_)
 obtain ⟨c,rfl,q1⟩:=q1
 cases r1
 refine wpAny_truthy_bool ?_
 cases c with
 | false=>exact hb pins s1 σ H1 Q I1 q1
 | true=>exact ⟨.bl true,H1,I1,rfl,q1⟩
theorem Rj(ha:PE X a ta):PE X (.UnaryOp .Not a pos) (Sl ta):=by
 intro pins s σ H Q I h
 refine UnaryOp_ (eD (ha pins s σ H _ I h) fun v s1 ⟨x,H1,I1,r1,q1⟩=>?_)
 obtain ⟨c,rfl,q1⟩:=q1
 cases r1
 exact not_of (wpAny_truthy_bool ⟨.bl (!c),H1,I1,rfl,q1⟩)
def tIf(t:TT)(ta tb:TE):TE:=fun σ H Q=>t σ H fun c H1=>if c=true then ta σ H1 Q else tb σ H1 Q
theorem K5{c:Expr}(hc:PT X c tA)(ha:PE X a ta)(hb:PE X b tb):PE X (.IfExp c a b pos) (tIf tA ta tb):=by
 intro pins s σ H Q I h
 refine wpAny_IfExp (eD (hc pins s σ H _ I h) fun d s1 ⟨H1,I1,q1⟩=>?_)
 cases d with
 | true=>exact ha pins s1 σ H1 Q I1 q1
 | false=>exact hb pins s1 σ H1 Q I1 q1
end
def cT(K:Frag)(H:Hp)(a:Addr)(xs:List V):Prop :=
 Rd H a (.lst xs) ∨
  ∃ (o:Obj) (its:Array Value) (n:Nat),K.lookup a=some o/\o.cls=.type "list"/\o.dict=none/\o.data=.seq its n/\its.size<=sizeLine/\b9 xs its.toList
def SqT(K:Frag)(H:Hp)(a:Addr)(xs:List V):Prop :=
 Rd H a (.tup xs) ∨
  ∃ (o:Obj) (its:Array Value) (n:Nat),K.lookup a=some o/\o.cls=.type "tuple"/\o.data=.seq its n/\its.size<=sizeLine/\b9 xs its.toList
def Sw:Value->Option V
 | .none=>some .eX
 | .bool b=>some (.bl b)
 | .int i _=>some (.int i)
 | .str x _=>some (.str x)
 | .bytes b _=>some (.byt b)
 | .float b _=>some (.flt b)
 | .ref a=>some (.ref a)
 | .type n=>some (.ty n)
 | _=>none
theorem cJ.abs{x:V}{u:Value}(r:cJ x u):Sw u=some x:=by
 cases x with
 | eX=>cases r;rfl
 | bl _=>cases r;rfl
 | int _=>obtain ⟨t,rfl⟩:=r;rfl
 | str _=>obtain ⟨t,rfl⟩:=r;rfl
 | byt _=>obtain ⟨t,rfl⟩:=r;rfl
 | flt _=>obtain ⟨t,rfl⟩:=r;rfl
 | ref _=>cases r;rfl
 | ty _=>cases r;rfl
theorem cJ.inj{x y:V}{u:Value}(r:cJ x u)(q:cJ y u):x=y:=Option.some.inj (r.abs.symm.trans q.abs)
theorem b9.inj:∀ {xs ys:List V} {us:List Value},b9 xs us->b9 ys us->xs=ys
 | _,_,_,.nil,.nil=>rfl
 | _,_,_,.cons r t,.cons r' t'=>by rw [r.inj r',b9.inj t t']
section
variable {X:Cx}{pins:List (Addr×Obj)}{σ:St}{H:Hp}{s:Shared}{a:Addr}{xs ys:List V}
theorem cT.of{K:Frag}(h:H a=some (.lst xs)):cT K H a xs:=.inl (.inl h)
theorem SqT.of{K:Frag}(h:H a=some (.tup xs)):SqT K H a xs:=.inl (.inl h)
theorem bN.list(I:bN X pins σ H s)(h:cT X.K H a xs):∃ its:List Value,b9 xs its/\PlainL s.heap a its.toArray/\xs.length<=sizeLine:=by
 rcases h with h|⟨o,its,n,hk,hc,hd,hs,hz,r⟩
 ·obtain ⟨z,its,n,r,e⟩:=h.ok I.eE
  exact ⟨its,r,⟨_,n,e,rfl,rfl,rfl⟩,z⟩
 ·refine ⟨its.toList,r,⟨o,n,I.kIn a o hk,hc,hd,by simpa using hs⟩,?_⟩
  have e:=r.length
  simp only [Array.length_toList] at e
  omega
theorem bN.tuple(I:bN X pins σ H s)(h:SqT X.K H a xs):∃ its:List Value,b9 xs its/\IsTup s.heap a its.toArray/\xs.length<=sizeLine:=by
 rcases h with h|⟨o,its,n,hk,hc,hs,hz,r⟩
 ·obtain ⟨z,its,r,p⟩:=h.ok I.eE
  exact ⟨its,r,p,z⟩
 ·refine ⟨its.toList,r,⟨o,I.kIn a o hk,hc,n,by simpa using hs⟩,?_⟩
  have e:=r.length
  simp only [Array.length_toList] at e
  omega
theorem bN.Od(I:bN X pins σ H s)(h:cT X.K H a xs)(h':cT X.K H a ys):xs=ys:=by
 obtain ⟨its,r,⟨o,n,e,_,_,d⟩,_⟩:=I.list h
 obtain ⟨its',r',⟨o',n',e',_,_,d'⟩,_⟩:=I.list h'
 rw [e] at e';cases e'
 rw [d] at d'
 injection d' with d1 _
 have:its=its':=by simpa using congrArg Array.toList d1
 subst this
 exact r.inj r'
theorem bN.NM(I:bN X pins σ H s)(h:SqT X.K H a xs)(h':SqT X.K H a ys):xs=ys:=by
 obtain ⟨its,r,⟨o,e,_,n,d⟩,_⟩:=I.tuple h
 obtain ⟨its',r',⟨o',e',_,n',d'⟩,_⟩:=I.tuple h'
 rw [e] at e';cases e'
 rw [d] at d'
 injection d' with d1 _
 have:its=its':=by simpa using congrArg Array.toList d1
 subst this
 exact r.inj r'
end
abbrev Cx.Gj(X:Cx)(E:Value->Shared->Prop):Cx:={ X with xe:=E }
abbrev Cx.nox(X:Cx):Cx:=X.Gj fun _ _=>False
theorem Cx.Ok.Gj{X:Cx}(ok:X.Ok)(E:Value->Shared->Prop):(X.Gj E).Ok :=
 ⟨ok.mod,ok.kind,ok.glob,ok.blt,ok.above,ok.inj,ok.has,ok.cab,ok.hd,ok.frames,ok.stk,ok.exf,ok.bs,ok.bsz,ok.Jx,ok.JH,ok.xF,ok.frf⟩
theorem Cx.Ok.v_{X:Cx}{E:Value->Shared->Prop}(ok:(X.Gj E).Ok):X.Ok :=
 ⟨ok.mod,ok.kind,ok.glob,ok.blt,ok.above,ok.inj,ok.has,ok.cab,ok.hd,ok.frames,ok.stk,ok.exf,ok.bs,ok.bsz,ok.Jx,ok.JH,ok.xF,ok.frf⟩
section
variable {X:Cx}{pins:List (Addr×Obj)}{σ:St}{H:Hp}{s:Shared}{E:Value->Shared->Prop}
theorem bN.Gj(I:bN X pins σ H s)(E:Value->Shared->Prop):bN (X.Gj E) pins σ H s:=⟨I.ok.Gj E,I.os,I.bare,I.base,I.loc,I.cell,I.free,I.mP,I.pin,I.eE,I.len⟩
theorem bN.v_(I:bN (X.Gj E) pins σ H s):bN X pins σ H s:=⟨I.ok.v_,I.os,I.bare,I.base,I.loc,I.cell,I.free,I.mP,I.pin,I.eE,I.len⟩
theorem SP.v_{D:vT}{f:Flow}{s':Shared}(h:SP (X.Gj E) pins D f s'):SP X pins D f s':=by
 cases f with
 | next=>obtain ⟨σ',H',I,q⟩:=h;exact ⟨σ',H',I.v_,q⟩
 | brk=>obtain ⟨σ',H',I,q⟩:=h;exact ⟨σ',H',I.v_,q⟩
 | cont=>obtain ⟨σ',H',I,q⟩:=h;exact ⟨σ',H',I.v_,q⟩
 | ret u=>obtain ⟨v,σ',H',I,r,q⟩:=h;exact ⟨v,σ',H',I.v_,r,q⟩
theorem PSs.nox{st:List Stmt}{t:TS}(h:PSs X.nox st t):PSs X st t:=fun pins s σ H D I hw =>
 wpAny_mono (h pins s σ H D (I.Gj _) hw) (fun _ _ q=>q.v_) fun _ _ z=>False.elim z
end
section
variable {X:Cx}{st:Stmt}{rest:List Stmt}{t u:TS}{e:Expr}{te:TE}{pos:Pos}
def RX:TS:=fun D σ H=>D.nx σ H
def OB(t u:TS):TS:=fun D σ H=>t { D with nx:=u D } σ H
theorem aR:PSs X [] RX:=fun _ _ σ H _ I h=>wpAny_execs_nil ⟨σ,H,I,h⟩
theorem aB(h1:PS X st t)(h2:PSs X rest u):PSs X (st::rest) (OB t u):=by
 intro pins s σ H D I h
 refine wpAny_execs_cons (eD (h1 pins s σ H { D with nx:=u D } I h) fun f s1 q=>?_)
 cases f with
 | next =>
  obtain ⟨σ',H',I',q⟩:=q
  exact h2 pins s1 σ' H' D I' q
 | ret v=>exact q
 | brk=>exact q
 | cont=>exact q
theorem aE(h1:PS X st t):PSs X [st] t:=by
 intro pins s σ H D I h
 refine wpAny_execs_cons (eD (h1 pins s σ H D I h) fun f s1 q=>?_)
 cases f with
 | next=>exact wpAny_execs_nil q
 | ret v=>exact q
 | brk=>exact q
 | cont=>exact q
theorem bN.quiet{pins:List (Addr×Obj)}{σ:St}{H:Hp}{s:Shared}(I:bN X pins σ H s):interactive X.env=false:=by simp [interactive,I.ok.kind]
def RJ(te:TE):TS:=fun D σ H=>te σ H fun _ H1=>D.nx σ H1
theorem bJ(he:PE X e te)(hs:swapsWith e none pos.line X.env=pure false:=by rfl):PS X (.Expr e pos) (RJ te):=by
 intro pins s σ H D I h
 exact wpAny_Expr_any (eD (he pins s σ H _ I h) fun v s1 ⟨x,H1,I1,r1,q1⟩=>⟨σ,H1,I1,q1⟩) I.quiet hs
def Rn(te:TE):TS:=fun D σ H=>te σ H D.rt
theorem aM(he:PE X e te):PS X (.Return (some e) pos) (Rn te):=by
 intro pins s σ H D I h
 exact wpAny_Return_some (eD (he pins s σ H _ I h) fun v s1 ⟨x,H1,I1,r1,q1⟩=>⟨x,σ,H1,I1,r1,q1⟩)
def RP:TS:=fun D _ H=>D.rt .eX H
theorem Pp:PS X (.Return none pos) RP:=fun _ _ σ H _ I h=>wpAny_Return_none ⟨.eX,σ,H,I,rfl,h⟩
def SG(c:TT)(t u:TS):TS:=fun D σ H=>c σ H fun b H1=>if b=true then t D σ H1 else u D σ H1
theorem a_{c:Expr}{a b:List Stmt}{tc:TT}(hc:PT X c tc)(ha:PSs X a t)(hb:PSs X b u):PS X (.If c a b pos) (SG tc t u):=by
 intro pins s σ H D I h
 refine wpAny_If (eD (hc pins s σ H _ I h) fun d s1 ⟨H1,I1,q1⟩=>?_)
 cases d with
 | true=>exact ha pins s1 σ H1 D I1 q1
 | false=>exact hb pins s1 σ H1 D I1 q1
end
abbrev TG:=V->St->Hp->(St->Hp->Prop)->Prop
def PG(X:Cx)(target:Expr)(t:TG):Prop :=
 ∀ (pins:List (Addr×Obj)) (s:Shared) (σ:St) (H:Hp) (v:V) (u:Value) (Q:St->Hp->Prop),bN X pins σ H s->cJ v u->t v σ H Q →
  wpAny (model X.prog X.w) X.A (assign target X.env u) (fun _ s'=>∃ σ' H',bN X pins σ' H' s'/\Q σ' H') X.xe s
abbrev QO:=V->V->V->Hp->(Hp->Prop)->Prop
def Sd(X:Cx)(t:QO):Prop :=
 ∀ (pins:List (Addr×Obj)) (s:Shared) (σ:St) (H:Hp) (o i v:V) (ov iv u:Value) (Q:Hp->Prop),bN X pins σ H s->cJ o ov->cJ i iv->cJ v u->t o i v H Q →
  wpAny (model X.prog X.w) X.A (setItem ov iv u) (fun _ s'=>∃ H',bN X pins σ H' s'/\Q H') X.xe s
abbrev TIp:=V->V->Hp->VK->Prop
def PIp(X:Cx)(op:Operator)(t:TIp):Prop :=
 ∀ (pins:List (Addr×Obj)) (s:Shared) (σ:St) (H:Hp) (x y:V) (v u:Value) (Q:VK),bN X pins σ H s->cJ x v->cJ y u->t x y H Q →
  wpAny (model X.prog X.w) X.A (inplaceOp op v u) (EP X pins σ Q) X.xe s
section
variable {X:Cx}{pos:Pos}
def Kp(i:Nat):TG:=fun v σ H Q=>Q (σ.set i (some v)) H
theorem i8{i:Nat}{x:Str}(hN:X.N.Nodup)(hi:X.N[i]?=some x)(hx:Loc X.env.scope x)(hf:X.fn x=true\/X.env.scope.names.lookup x=some .local:=by first|exact .inl rfl|exact .inr rfl|assumption):PG X (.Name x pos) (Kp i):=by
 intro pins s σ H v u Q I r h
 exact wpAny_assign_Name (Ft I hN hi hx r (fun s' I'=>⟨_,H,I',h⟩) hf)
def Rp(te:TE)(g:TG):TS:=fun D σ H=>te σ H fun x H1=>g x σ H1 D.nx
theorem Rg{i:Nat}{x:Str}{e:Expr}{te:TE}{pos':Pos}(hN:X.N.Nodup)(hi:X.N[i]?=some x)(hx:Loc X.env.scope x)(he:PE X e te)(hs:swapsWith e (some (.Name x pos')) pos.line X.env=pure false:=by rfl)(hf:X.fn x=true\/X.env.scope.names.lookup x=some .local:=by first|exact .inl rfl|exact .inr rfl|assumption) :
 PS X (.Assign [.Name x pos'] e pos) (Rp te (Kp i)):=by
 intro pins s σ H D I h
 refine wpAny_Assign_Name (eD (he pins s σ H _ I h) fun v s1 ⟨y,H1,I1,r1,q1⟩=>?_) hs
 exact Ft I1 hN hi hx r1 (fun s2 I2=>⟨_,H1,I2,q1⟩) hf
def Tc(i:Nat)(te:TE)(ti:TIp):TS:=fun D σ H=>∃ x,σ[i]?=some (some x)/\te σ H fun y H1=>ti x y H1 fun z H2=>D.nx (σ.set i (some z)) H2
theorem L1{i:Nat}{x:Str}{e:Expr}{te:TE}{op:Operator}{ti:TIp}{pos':Pos}(hN:X.N.Nodup)(hi:X.N[i]?=some x)(hx:Loc X.env.scope x)(he:PE X e te)(ho:PIp X op ti)(hf:X.fn x=true\/X.env.scope.names.lookup x=some .local:=by first|exact .inl rfl|exact .inr rfl|assumption) :
 PS X (.AugAssign (.Name x pos') op e pos) (Tc i te ti):=by
 intro pins s σ H D I h
 obtain ⟨v,e1,h⟩:=h
 obtain ⟨m,hn,hl⟩:=I.loc
 have vis:Vis X.env.scope x:=by rcases hx with k|k;exact .inl k;exact .inr (.inl k)
 obtain ⟨u,r,l⟩:=hl i x v hi e1 vis
 refine wpAny_AugAssign_Name ?_
 have go:wpAny (model X.prog X.w) X.A (eval e X.env) (fun w s₂=>wpAny (model X.prog X.w) X.A (inplaceOp op u w) (fun r s₃=>wpAny (model X.prog X.w) X.A (storeName X.env x r) (fun _=>SP X pins D .next) X.xe s₃) X.xe s₂) X.xe s:=by
  refine eD (he pins s σ H _ I h) fun w s1 ⟨y,H1,I1,r1,q1⟩=>?_
  refine eD (ho pins s1 σ H1 v y u w _ I1 r r1 q1) fun z s2 ⟨zv,H2,I2,r2,q2⟩=>?_
  exact Ft I2 hN hi hx r2 (fun s3 I3=>⟨_,H2,I3,q2⟩) hf
 rcases l with ⟨hk,hm⟩|⟨hk,c,hc,hcell⟩
 ·exact wpAny_loadName_local I.ok.kind hk hn hm go
 ·rcases hk with hk|hk
  ·exact wpAny_loadName_cell I.ok.kind hk hc hcell go
  ·rcases hx with k|k
   ·have:X.env.scope.names.lookup x=some .free:=hk
    rw [k] at this;cases this
   ·have:X.env.scope.names.lookup x=some .free:=hk
    rw [k] at this;cases this
def Sh(to ti te:TE)(tget:V->V->Hp->VK->Prop)(tip:TIp)(tset:QO):TS:=fun D σ H=>to σ H fun o H1=>ti σ H1 fun i H2=>tget o i H2 fun x H3=>te σ H3 fun y H4=>tip x y H4 fun z H5=>tset o i z H5 fun H6=>D.nx σ H6
def Sf(X:Cx)(t:V->V->Hp->VK->Prop):Prop :=
 ∀ (pins:List (Addr×Obj)) (s:Shared) (σ:St) (H:Hp) (o i:V) (ov iv:Value) (Q:VK),bN X pins σ H s->cJ o ov->cJ i iv->t o i H Q →
  wpAny (model X.prog X.w) X.A (getItem ov iv) (EP X pins σ Q) X.xe s
theorem Ja{o i e:Expr}{to ti te:TE}{tget:V->V->Hp->VK->Prop}{tip:TIp}{tset:QO}{op:Operator}{tpos:Pos}(ho:PE X o to)(hi:PE X i ti)(hg:Sf X tget)(he:PE X e te)(hp:PIp X op tip)(hs:Sd X tset)
 (ha:∀ ov iv new,augStore i ov iv new=(do holding [new,ov,iv] (setItem ov iv new);release [new,ov,iv] [];pure .next):=by intros;rfl):PS X (.AugAssign (.Subscript o i tpos) op e pos) (Sh to ti te tget tip tset):=by
 intro pins s σ H D I h
 refine wpAny_AugAssign_SubscriptAny (eD (ho pins s σ H _ I h) fun ov s1 ⟨x1,H1,I1,r1,q1⟩=>?_) ha
 refine eD (hi pins s1 σ H1 _ I1 q1) fun iv s2 ⟨x2,H2,I2,r2,q2⟩=>?_
 refine eD (hg pins s2 σ H2 x1 x2 ov iv _ I2 r1 r2 q2) fun old s3 ⟨x3,H3,I3,r3,q3⟩=>?_
 refine eD (he pins s3 σ H3 _ I3 q3) fun v s4 ⟨x4,H4,I4,r4,q4⟩=>?_
 refine eD (hp pins s4 σ H4 x3 x4 old v _ I4 r3 r4 q4) fun new s5 ⟨x5,H5,I5,r5,q5⟩=>?_
 exact eD (hs pins s5 σ H5 x1 x2 x5 ov iv new _ I5 r1 r2 r5 q5) fun _ s6 ⟨H6,I6,q6⟩=>⟨σ,H6,I6,q6⟩
def ipI(f:Int->Int->Int):TIp:=fun x y H Q=>∃ i j,x=.int i/\y=.int j/\Q (.int (f i j)) H
theorem CF:PIp X .Add (ipI fun i j=>i+j):=by
 intro pins s σ H x y v u Q I r1 r2 h
 obtain ⟨i,j,e1,e2,q⟩:=h
 subst e1;subst e2
 obtain ⟨t,rfl⟩:=r1
 obtain ⟨t',rfl⟩:=r2
 exact iadd_int ⟨.int _,H,I.tok _,⟨_,rfl⟩,q⟩
end
section
variable {X:Cx}{pos:Pos}
inductive Pf(c:TT)(tb:TS)(D:vT)(σ:St)(H:Hp):Prop
 | mk:∀ W:Nat->St->Hp->Prop,(∃ m,W m σ H)->(∀ m σ H,W m σ H->c σ H fun b H1=>if b=true then ∃ N:St->Hp->Prop,(∀ σ' H',N σ' H'->∃ m',m'<m/\W m' σ' H')/\tb { D with nx:=N,ct:=N,bk:=D.nx } σ H1 else D.nx σ H1)->Pf c tb D σ H
theorem BR{c:Expr}{body:List Stmt}{tc:TT}{tb:TS}(hp:PassesOwn (model X.prog X.w) X.A X.env X.xe)(hc:PT X c tc)(hb:PSs X body tb):PS X (.While c body [] pos) (Pf tc tb):=by
 intro pins s σ H D I h
 obtain ⟨W,⟨m0,w0⟩,turn⟩:=h
 refine wpAny_While (codeAny_whileLoop (fun n s'=>∃ σ' H',bN X pins σ' H' s'/\W n σ' H') ?_ m0 ⟨σ,H,I,w0⟩)
 rintro n s1 ⟨σ1,H1,I1,w1⟩
 refine wpAny_passesOwn hp (eD (hc pins s1 σ1 H1 _ I1 (turn n σ1 H1 w1)) fun b s2 ⟨H2,I2,q2⟩=>?_)
 cases b with
 | true =>
  obtain ⟨N,hN,q2⟩:=q2
  rw [if_pos rfl]
  refine wpAny_passesOwn hp (eD (hb pins s2 σ1 H2 _ I2 q2) fun f s3 q3=>?_)
  cases f with
  | next =>
   obtain ⟨σ3,H3,I3,n3⟩:=q3
   obtain ⟨m',hm,w3⟩:=hN σ3 H3 n3
   exact ⟨m',hm,σ3,H3,I3,w3⟩
  | cont =>
   obtain ⟨σ3,H3,I3,n3⟩:=q3
   obtain ⟨m',hm,w3⟩:=hN σ3 H3 n3
   exact ⟨m',hm,σ3,H3,I3,w3⟩
  | brk=>exact q3
  | ret v=>exact q3
 | false =>
  rw [if_neg Bool.false_ne_true]
  exact wpAny_execs_nil ⟨σ1,H2,I2,q2⟩
end
structure It where
 go:Nat->Hp->Prop
 yld:Nat->Hp->V->Hp->Prop
 stop:Nat->Hp->Prop
def Gp(X:Cx)(pins:List (Addr×Obj))(H:Hp)(b:Addr):Prop :=
 H b=none/\b≠X.env.locals/\b∉X.fs/\(b∈X.ex\/X.DO.heap.objs.size<=b)/\(∀ x c,X.env.cells.lookup x=some c->c≠b)/\∀ p∈X.pn++pins,p.1≠b
theorem bN.OV{X:Cx}{pins:List (Addr×Obj)}{σ:St}{H H':Hp}{s:Shared}{b:Addr}(I:bN X pins σ H s)(hb:s.heap.objs.size<=b)(hn:H' b=none):Gp X pins H' b:=by
 refine ⟨hn,Nat.ne_of_gt (Nat.lt_of_lt_of_le I.lt hb),I.Sz hb,.inr (Nat.le_trans I.sz hb),fun x c e z=>?_,fun p hp z=>?_⟩
 ·obtain ⟨v,q⟩:=I.cell x c e
  exact absurd (Nat.lt_of_lt_of_le q.lt (by rw [z];exact hb)) (Nat.lt_irrefl _)
 ·exact absurd (Nat.lt_of_lt_of_le (Heap.lt_size (I.pin p hp).1) (by rw [z];exact hb)) (Nat.lt_irrefl _)
structure Kg(P:Program)(w:World)(K:Frag)(tg:Expr)(J:It)(fp:List Addr)(it:Addr)(tn:Nat->Heap->Prop):Prop where
 mem:it∈fp
 obj:∀ i h,tn i h->∀ b∈fp,∃ o,h.get? b=some o/\∀ v,o.data≠.cell v
 keep:∀ i h h',tn i h->(∀ b∈fp,∀ o,h.get? b=some o->h'.get? b=some o)->tn i h'
 item:∀ (X:Cx),X.prog=P->X.w=w->X.K=K->X.calm=true->∀ (i:Nat) (pins:List (Addr×Obj)) (s:Shared) (σ:St) (H:Hp) (E:Value->Shared->Prop),bN X pins σ H s->(∀ b∈fp,Gp X pins H b)->tn i s.heap->J.go i H →
  wpAny (model P w) X.A (pyNext (.ref it)) (fun r s1=>∃ u,r=some u ∧
   wpAny (model P w) X.A (letOwnedTupleGo tg (.ref it) u) (fun _ s2=>∃ x H',bN X pins σ H' s2/\cJ x u/\J.yld i H x H'/\tn (i+1) s2.heap/\∀ b∈fp,H' b=none) E s1) E s
 done:∀ (X:Cx),X.prog=P->X.w=w->X.K=K->X.calm=true->∀ (i:Nat) (pins:List (Addr×Obj)) (s:Shared) (σ:St) (H:Hp) (E:Value->Shared->Prop),bN X pins σ H s->(∀ b∈fp,Gp X pins H b)->tn i s.heap->J.stop i H →
  wpAny (model P w) X.A (pyNext (.ref it)) (fun r s1=>r=none/\bN X pins σ H s1) E s
 self:∀ (A:Around) (i:Nat) (s:Shared) (Q:Value->Shared->Prop) (E:Value->Shared->Prop),tn i s.heap->Q (.ref it) s->wpAny (model P w) A (pyIter (.ref it)) Q E s
abbrev TI:=St->Hp->(It->Hp->Prop)->Prop
def PIE(X:Cx)(pins:List (Addr×Obj))(σ:St)(tg:Expr)(R:It->Hp->Prop)(itv:Value)(s2:Shared):Prop :=
 ∃ (it:Addr) (fp:List Addr) (tn:Nat->Heap->Prop) (J:It) (H':Hp),itv=.ref it/\bN X pins σ H' s2/\Kg X.prog X.w X.K tg J fp it tn/\tn 0 s2.heap/\(∀ b∈fp,Gp X pins H' b)/\R J H'
def PI(X:Cx)(tg iter:Expr)(wi:TI):Prop :=
 ∀ (pins:List (Addr×Obj)) (s:Shared) (σ:St) (H:Hp) (R:It->Hp->Prop),bN X pins σ H s->wi σ H R →
  wpAny (model X.prog X.w) X.A (eval iter X.env) (fun v s1=>wpAny (model X.prog X.w) X.A (pyIter v) (PIE X pins σ tg R) X.xe s1) X.xe s
theorem HN{M:Model}{A:Around}{E:Value->Shared->Prop}{s:Shared}{tg:Expr}{it:Addr}{u:Value}{o:Obj}{n:String}{vs:Array Value}{Q:Unit->Shared->Prop}(ho:s.heap.get? it=some o)(hc:o.cls=.type n)(hd:o.data=.fields vs)
 (hn:["enumerate","zip","dict_itemiterator","dict_reverseitemiterator","odict_iterator","itertools.zip_longest","itertools.pairwise"].contains n=false) (hQ:Q () s):wpAny M A (letOwnedTupleGo tg (.ref it) u) Q E s:=by
 unfold letOwnedTupleGo
 cases tg<;>first
  | exact wpAny_pure hQ
  | (cases u<;>first
   | exact wpAny_pure hQ
   | (
    refine wpAny_bind (wpAny_load ho ?_)
    rw [hc,hd]
    show wpAny M A (if (["enumerate","zip","dict_itemiterator","dict_reverseitemiterator","odict_iterator","itertools.zip_longest","itertools.pairwise"].contains n&&vs[0]?==some (rawInt _))=true then _ else _) Q E s
    rw [if_neg (by intro h;rw [hn,Bool.false_and] at h;cases h)]
    exact wpAny_pure hQ))
def Itl(K:Frag)(a:Addr):It :=
 ⟨fun i H=>∃ xs x,cT K H a xs/\xs[i]?=some x,fun i H x H'=>H'=H/\∀ xs,cT K H a xs->xs[i]?=some x,fun i H=>∃ xs,cT K H a xs/\xs.length<=i⟩
def Itt(K:Frag)(a:Addr):It :=
 ⟨fun i H=>∃ xs x,SqT K H a xs/\xs[i]?=some x,fun i H x H'=>H'=H/\∀ xs,SqT K H a xs->xs[i]?=some x,fun i H=>∃ xs,SqT K H a xs/\xs.length<=i⟩
def Itr(lo:Int)(n:Nat):It:=⟨fun i _=>i<n,fun i H x H'=>H'=H/\x=.int (lo+i),fun i _=>n<=i⟩
theorem M7{P:Program}{w:World}{K:Frag}{tg:Expr}(a it:Addr):Kg P w K tg (Itl K a) [it] it (fun i h=>h.IsListIter it a i) where
 mem:=by simp
 obj:=fun i h st b hb=>by
  have e:b=it:=by simpa using hb
  subst e
  obtain ⟨o,e,c,d⟩:=st
  exact ⟨o,e,fun v z=>by rw [d] at z;cases z⟩
 keep:=fun i h h' st k=>st.at fun o e=>k it (by simp) o e
 item:=by
  intro X hP hw hK hc i pins s σ H E I hf st hg
  subst hP hw hK
  obtain ⟨xs,x,hq,hx⟩:=hg
  obtain ⟨its,rv,p,hz⟩:=I.list hq
  obtain ⟨u,hu,ru⟩:=rv.get hx
  obtain ⟨f0,f1,f2,f3,f4,f5⟩:=hf it (by simp)
  refine wpAny_pyNext_list_item st p.isList (x:=u) (by simpa using hu) fun h' st' sb=>?_
  have I1:bN X pins σ H { s with heap:=h' }:=I.turned (t':=s.toks) (fun b o hb e=>(sb.2 b hb).trans e) f0 f1 f3 f4 f5
  obtain ⟨o,e,c,d⟩:=id st'
  exact ⟨u,rfl,HN (s:={ s with heap:=h' }) e c d (by decide) ⟨x,H,I1,ru,⟨rfl,fun ys hy=>by rw [I.Od hy hq];exact hx⟩,st',fun b hb=>(hf b hb).1⟩⟩
 done:=by
  intro X hP hw hK hc i pins s σ H E I hf st hg
  subst hP hw hK
  obtain ⟨xs,hq,hx⟩:=hg
  obtain ⟨its,rv,p,hz⟩:=I.list hq
  obtain ⟨f0,f1,f2,f3,f4,f5⟩:=hf it (by simp)
  have hl:=rv.length
  exact wpAny_pyNext_list_end (I.ok.hd hc) st p.isList (by simp;omega) fun h' eb=>⟨rfl,I.turned (t':=s.toks) (fun b o hb e=>eb b o hb e) f0 f1 f3 f4 f5⟩
 self:=fun _ _ _ _ _ st h=>wpAny_pyIter_listiter st h
theorem Mb{P:Program}{w:World}{K:Frag}{tg:Expr}(a it:Addr):Kg P w K tg (Itt K a) [it] it (fun i h=>h.IsTupleIter it a i) where
 mem:=by simp
 obj:=fun i h st b hb=>by
  have e:b=it:=by simpa using hb
  subst e
  obtain ⟨o,e,c,d⟩:=st
  exact ⟨o,e,fun v z=>by rw [d] at z;cases z⟩
 keep:=fun i h h' st k=>st.at fun o e=>k it (by simp) o e
 item:=by
  intro X hP hw hK hc i pins s σ H E I hf st hg
  subst hP hw hK
  obtain ⟨xs,x,hq,hx⟩:=hg
  obtain ⟨its,rv,p,hz⟩:=I.tuple hq
  obtain ⟨u,hu,ru⟩:=rv.get hx
  obtain ⟨f0,f1,f2,f3,f4,f5⟩:=hf it (by simp)
  refine wpAny_pyNext_tuple_item st (show s.heap.IsTuple a its.toArray from p) (x:=u) (by simpa using hu) fun h' st' sb=>?_
  have I1:bN X pins σ H { s with heap:=h' }:=I.turned (t':=s.toks) (fun b o hb e=>(sb.2 b hb).trans e) f0 f1 f3 f4 f5
  obtain ⟨o,e,c,d⟩:=id st'
  exact ⟨u,rfl,HN (s:={ s with heap:=h' }) e c d (by decide) ⟨x,H,I1,ru,⟨rfl,fun ys hy=>by rw [I.NM hy hq];exact hx⟩,st',fun b hb=>(hf b hb).1⟩⟩
 done:=by
  intro X hP hw hK hc i pins s σ H E I hf st hg
  subst hP hw hK
  obtain ⟨xs,hq,hx⟩:=hg
  obtain ⟨its,rv,p,hz⟩:=I.tuple hq
  obtain ⟨f0,f1,f2,f3,f4,f5⟩:=hf it (by simp)
  have hl:=rv.length
  exact wpAny_pyNext_tuple_end (I.ok.hd hc) st (show s.heap.IsTuple a its.toArray from p) (by simp;omega) fun h' eb=>⟨rfl,I.turned (t':=s.toks) (fun b o hb e=>eb b o hb e) f0 f1 f3 f4 f5⟩
 self:=fun _ _ _ _ _ st h=>wpAny_pyIter_tupleiter st h
theorem LR{P:Program}{w:World}{K:Frag}{tg:Expr}(it:Addr)(lo:Int)(n:Nat):Kg P w K tg (Itr lo n) [it] it (fun i h=>IsRangeIter h it (lo+(i:Nat)*1) ((n:Int) - (i:Nat)) 1) where
 mem:=by simp
 obj:=fun i h st b hb=>by
  have e:b=it:=by simpa using hb
  subst e
  exact ⟨_,st,fun v z=>by
   have z':Data.fields _=Data.cell v:=z
   cases z'⟩
 keep:=fun i h h' st k=>k it (by simp) _ st
 item:=by
  intro X hP hw hK hc i pins s σ H E I hf st hg
  subst hP hw hK
  obtain ⟨f0,f1,f2,f3,f4,f5⟩:=hf it (by simp)
  have W:=Walks.range (prog:=X.prog) (w:=X.w) (I.ok.hd hc) it lo 1 n
  refine W.item i s _ _ hg st fun v h' tk hv st' kk=>?_
  obtain ⟨t,rfl⟩:=hv
  have I1:bN X pins σ H { s with heap:=h',toks:=tk }:=I.turned (fun b o hb e=>kk b o (by simpa using hb) e) f0 f1 f3 f4 f5
  refine ⟨_,rfl,HN (s:={ s with heap:=h',toks:=tk }) (n:="range_iterator") st' rfl rfl (by decide) ⟨.int (lo+i),H,I1,⟨t,?_⟩,⟨rfl,rfl⟩,st',fun b hb=>(hf b hb).1⟩⟩
  rw [Int.mul_one]
 done:=by
  intro X hP hw hK hc i pins s σ H E I hf st hg
  subst hP hw hK
  obtain ⟨f0,f1,f2,f3,f4,f5⟩:=hf it (by simp)
  exact wpAny_pyNext_range_end (I.ok.hd hc) st (by have:n<=i:=hg;omega) fun h' eb=>⟨rfl,I.turned (t':=s.toks) (fun b o hb e=>eb b o hb e) f0 f1 f3 f4 f5⟩
 self:=fun _ _ _ _ _ st h=>wpAny_pyIter_rangeiter st h
section
variable {X:Cx}{tg:Expr}
def RN(K:Frag)(tl:TE):TI:=fun σ H R=>tl σ H fun x H1=>∃ a,x=.ref a/\(∃ xs,cT K H1 a xs)/\R (Itl K a) H1
def SE(K:Frag)(tl:TE):TI:=fun σ H R=>tl σ H fun x H1=>∃ a,x=.ref a/\(∃ xs,SqT K H1 a xs)/\R (Itt K a) H1
theorem wQ{l:Expr}{tl:TE}(hl:PE X l tl):PI X tg l (RN X.K tl):=by
 intro pins s σ H R I h
 refine eD (hl pins s σ H _ I h) fun v s1 ⟨x,H1,I1,r1,q1⟩=>?_
 obtain ⟨a,e,⟨xs,hq⟩,q⟩:=q1
 subst e
 cases r1
 obtain ⟨its,rv,p,hz⟩:=I1.list hq
 refine wpAny_pyIter_list p.isList ?_
 refine ⟨s1.heap.objs.size,[s1.heap.objs.size],_,_,H1,rfl,I1.kept (t':=s1.toks) fun b o e=>Heap.get?_push_of_some _ e,M7 a _,⟨_,Heap.get?_push_size _ rfl,rfl,rfl⟩,fun b hb=>?_,q⟩
 have e:b=s1.heap.objs.size:=by simpa using hb
 subst e
 exact I1.OV (Nat.le_refl _) (I1.eE.fresh (Nat.le_refl _))
theorem RF{l:Expr}{tl:TE}(hl:PE X l tl):PI X tg l (SE X.K tl):=by
 intro pins s σ H R I h
 refine eD (hl pins s σ H _ I h) fun v s1 ⟨x,H1,I1,r1,q1⟩=>?_
 obtain ⟨a,e,⟨xs,hq⟩,q⟩:=q1
 subst e
 cases r1
 obtain ⟨its,rv,p,hz⟩:=I1.tuple hq
 refine wpAny_pyIter_tuple (show s1.heap.IsTuple a its.toArray from p) ?_
 refine ⟨s1.heap.objs.size,[s1.heap.objs.size],_,_,H1,rfl,I1.kept (t':=s1.toks) fun b o e=>Heap.get?_push_of_some _ e,Mb a _,⟨_,Heap.get?_push_size _ rfl,rfl,rfl⟩,fun b hb=>?_,q⟩
 have e:b=s1.heap.objs.size:=by simpa using hb
 subst e
 exact I1.OV (Nat.le_refl _) (I1.eE.fresh (Nat.le_refl _))
theorem OU{pins:List (Addr×Obj)}{σ:St}{H:Hp}{s:Shared}{R:It->Hp->Prop}{E:Value->Shared->Prop}{lo hi:Int}{t u v:Tok}{tk:Nat}(I:bN X pins σ H s)(h1:-(2 ^ 62)<=lo)(h2:lo<2 ^ 62)(h3:-(2 ^ 62)<=hi)(h4:hi<2 ^ 62)
 (q:R (Itr lo (hi - lo).toNat) H):wpAny (model X.prog X.w) X.A (pyIter (.ref s.heap.objs.size)) (PIE X pins σ tg R) E { s with heap:=s.heap.push { cls:=.type "range",data:=.fields #[.int lo t,.int hi u,.int 1 v] },toks:=tk }:=by
 refine wpAny_pyIter_range (IsRange.new ..) (small_one h1 h2 h3 h4) ?_
 have I1:bN X pins σ H { s with heap:=s.heap.push { cls:=.type "range",data:=.fields #[.int lo t,.int hi u,.int 1 v] },toks:=tk }:=I.kept fun b o e=>Heap.get?_push_of_some _ e
 refine ⟨(s.heap.push { cls:=.type "range",data:=.fields #[.int lo t,.int hi u,.int 1 v] }).objs.size,[(s.heap.push { cls:=.type "range",data:=.fields #[.int lo t,.int hi u,.int 1 v] }).objs.size],_,_,H,rfl,
  I1.kept (t':=tk) fun b o e=>Heap.get?_push_of_some _ e,LR _ lo (hi - lo).toNat,?_,fun b hb=>?_,q⟩
 ·have e1:lo+((0:Nat):Int)*1=lo:=by simp
  have e2:(((hi - lo).toNat:Nat):Int) - ((0:Nat):Int)=Builtin.Range.rangeSize lo hi 1:=by rw [rangeSize_one];split<;>omega
  show IsRangeIter _ _ (lo+((0:Nat):Int)*1) ((((hi - lo).toNat:Nat):Int) - ((0:Nat):Int)) 1
  rw [e1,e2]
  exact Heap.get?_push_size _ rfl
 ·have e:b=(s.heap.push { cls:=.type "range",data:=.fields #[.int lo t,.int hi u,.int 1 v] }).objs.size:=by simpa using hb
  subst e
  exact I1.OV (Nat.le_refl _) (I1.eE.fresh (Nat.le_refl _))
def So(ta:TA):TI:=fun σ H R=>ta σ H fun vs H1=>∃ j:Int,vs=[.int j]/\-(2 ^ 62)<=j/\j<2 ^ 62/\R (Itr 0 j.toNat) H1
theorem wN{a:Expr}{ta:TA}{p pos:Pos}(hg:Gl X "range")(hm:X.mg "range"=none)(ha:PA X [a] ta)(hs:starEach [a] X.env=[(false,eval a X.env)]:=by rfl):PI X tg (.Call (.Name "range" p) [a] [] pos) (So ta):=by
 intro pins s σ H R I h
 refine Call_ (LB I hg hm boot_range (PyProof.Rows.callWith_type1 (eD (ha pos pins s σ H _ I h) fun us s1 ⟨vs,H1,I1,r1,q1⟩=>?_) hs rfl))
 obtain ⟨j,e,q1,q2,q⟩:=q1
 subst e
 cases r1 with
 | cons r rr =>
  cases rr
  obtain ⟨t,rfl⟩:=r
  exact call_range_1 (OU I1 (by omega) (by omega) q1 q2 (by simpa using q))
inductive xGo(J:It)(g:TG)(tb:TS)(D:vT)(W:Nat->Nat->St->Hp->Prop)(i m:Nat)(σ:St)(H:Hp):Prop
 | mk:J.go i H->∀ N:St->Hp->Prop,(∀ σ' H',N σ' H'->∃ m',m'<m/\W (i+1) m' σ' H')->(∀ x H',J.yld i H x H'->g x σ H' fun σ2 H2=>tb { D with nx:=N,ct:=N,bk:=D.nx } σ2 H2)->xGo J g tb D W i m σ H
inductive NZ(J:It)(g:TG)(tb:TS)(D:vT)(σ:St)(H:Hp):Prop
 | mk:∀ W:Nat->Nat->St->Hp->Prop,(∃ m,W 0 m σ H)->(∀ i m σ H,W i m σ H->(J.stop i H/\D.nx σ H)\/xGo J g tb D W i m σ H)->NZ J g tb D σ H
def S_(wi:TI)(g:TG)(tb:TS):TS:=fun D σ H=>wi σ H fun J H1=>NZ J g tb D σ H1
def Et(fp:List Addr)(h:Heap):List (Addr×Obj):=fp.filterMap fun b=>(h.get? b).map fun o=>(b,o)
theorem zS{fp:List Addr}{h:Heap}{b:Addr}{o:Obj}(hb:b∈fp)(e:h.get? b=some o):(b,o)∈Et fp h:=List.mem_filterMap.mpr ⟨b,hb,by rw [e];rfl⟩
theorem Nm{fp:List Addr}{h:Heap}{p:Addr×Obj}(hp:p∈Et fp h):p.1∈fp/\h.get? p.1=some p.2:=by
 obtain ⟨b,hb,e⟩:=List.mem_filterMap.mp hp
 cases q:h.get? b with
 | none=>rw [q] at e;cases e
 | some o =>
  rw [q] at e
  have e':(b,o)=p:=Option.some.inj e
  subst e'
  exact ⟨hb,q⟩
theorem bN.pinned{pins:List (Addr×Obj)}{σ:St}{H:Hp}{s:Shared}{fp:List Addr}(I:bN X pins σ H s)(hf:∀ b∈fp,Gp X pins H b)(ho:∀ b∈fp,∃ o,s.heap.get? b=some o/\∀ v,o.data≠.cell v):bN X (pins++Et fp s.heap) σ H s :=
 I.Mt fun p hp=>(mem_append.mp hp).elim (fun z=>I.pin p (List.mem_append_right _ z)) fun z=>by
  obtain ⟨hb,e⟩:=Nm z
  obtain ⟨f0,f1,f2,_⟩:=hf p.1 hb
  obtain ⟨o,e',d⟩:=ho p.1 hb
  rw [e] at e';cases e'
  exact ⟨e,f0,f1,f2,d⟩
theorem bN.Be{pins pl:List (Addr×Obj)}{σ:St}{H:Hp}{s:Shared}(I:bN X (pins++pl) σ H s):bN X pins σ H s:=I.Mt fun p hp=>I.pin p (List.mem_append_right _ (List.mem_append_left _ hp))
theorem p7{iter:Expr}{body:List Stmt}{wi:TI}{g:TG}{tb:TS}{pos:Pos}(hp:PassesOwn (model X.prog X.w) X.A X.env X.xe)(hc:X.calm=true)(hi:PI X tg iter wi)(hg:PG X tg g)(hb:PSs X body tb)
 (hs:∀ x,foldedSetIterable iter X.env x=pure x:=by intro _;rfl):PS X (.For tg iter body [] pos) (S_ wi g tb):=by
 intro pins s σ H D I h
 refine wpAny_For (eD (hi pins s σ H _ I h) fun v s1 h1=>eD h1 fun itv s2 h2=>?_) hs
 obtain ⟨it,fp,tn,J,H2,e,I2,T,st2,f2,W,⟨m0,w0⟩,turn⟩:=h2
 subst e
 have stat:∀ {H':Hp},(∀ b∈fp,H' b=none)->∀ b∈fp,Gp X pins H' b:=fun hn b hb=>⟨hn b hb,(f2 b hb).2⟩
 refine codeAny_forLoop_any (fun n s'=>∃ i σ' H',bN X pins σ' H' s'/\tn i s'.heap/\(∀ b∈fp,H' b=none)/\W i n σ' H') ?_ m0 ⟨0,σ,H2,I2,st2,fun b hb=>(f2 b hb).1,w0⟩
 rintro n s3 ⟨i,σ3,H3,I3,st3,fr3,w3⟩
 rcases turn i n σ3 H3 w3 with ⟨stop,qn⟩|⟨go,N,hN,step⟩
 ·refine wpAny_passesOwn hp (eD (T.done X rfl rfl rfl hc i pins s3 σ3 H3 X.xe I3 (stat fr3) st3 stop) fun r s4 ⟨hr,I4⟩=>?_)
  subst hr
  exact wpAny_execs_nil ⟨σ3,H3,I4,qn⟩
 ·refine wpAny_passesOwn hp (eD (T.item X rfl rfl rfl hc i pins s3 σ3 H3 X.xe I3 (stat fr3) st3 go) fun r s4 ⟨u,hr,h4⟩=>?_)
  subst hr
  refine wpAny_passesOwn hp (eD h4 fun _ s5 ⟨x,H5,I5,r5,y5,st5,fr5⟩=>?_)
  have I5':=I5.pinned (stat fr5) (T.obj _ _ st5)
  refine wpAny_passesOwn hp (eD (hg _ s5 σ3 H5 x u _ I5' r5 (step x H5 y5)) fun _ s6 ⟨σ6,H6,I6,q6⟩=>?_)
  refine wpAny_passesOwn hp (eD (hb _ s6 σ6 H6 _ I6 q6) fun f s7 q7=>?_)
  have again:∀ {σ7:St} {H7:Hp},bN X (pins++Et fp s5.heap) σ7 H7 s7->N σ7 H7->∃ m,m<n/\∃ i σ' H',bN X pins σ' H' s7/\tn i s7.heap/\(∀ b∈fp,H' b=none)/\W i m σ' H':=fun {σ7 H7} I7 n7=>by
   obtain ⟨m',hm,w7⟩:=hN σ7 H7 n7
   refine ⟨m',hm,i+1,σ7,H7,I7.Be,T.keep _ _ _ st5 fun b hb o e=>(I7.pin (b,o) (List.mem_append_right _ (List.mem_append_right _ (zS hb e)))).1,fun b hb=>?_,w7⟩
   obtain ⟨o,e,d⟩:=T.obj _ _ st5 b hb
   exact (I7.pin (b,o) (List.mem_append_right _ (List.mem_append_right _ (zS hb e)))).2.1
  cases f with
  | next=>obtain ⟨σ7,H7,I7,n7⟩:=q7;exact again I7 n7
  | cont=>obtain ⟨σ7,H7,I7,n7⟩:=q7;exact again I7 n7
  | brk=>obtain ⟨σ7,H7,I7,q7⟩:=q7;exact ⟨σ7,H7,I7.Be,q7⟩
  | ret v=>obtain ⟨x7,σ7,H7,I7,r7,q7⟩:=q7;exact ⟨x7,σ7,H7,I7.Be,r7,q7⟩
end
theorem BA{K:Frag}{a:Addr}{xs:List V}{g:TG}{tb:TS}{D:vT}{σ:St}{H:Hp}(Pv:Nat->St->Hp->Prop)(h0:Pv 0 σ H)(hl:∀ i σ H,i<=xs.length->Pv i σ H->cT K H a xs)
 (hs:∀ i x σ H,xs[i]?=some x->Pv i σ H->g x σ H fun σ2 H2=>tb { D with nx:=Pv (i+1),ct:=Pv (i+1),bk:=D.nx } σ2 H2) (hd:∀ σ H,Pv xs.length σ H->D.nx σ H) :
 NZ (Itl K a) g tb D σ H:=by
 refine ⟨fun i m σ H=>m=xs.length - i/\i<=xs.length/\Pv i σ H,⟨xs.length,by simp,Nat.zero_le _,h0⟩,?_⟩
 rintro i m σ H ⟨rfl,hi,p⟩
 have q:=hl i σ H hi p
 by_cases hlt:i<xs.length
 ·refine .inr ⟨⟨xs,xs[i],q,by simp [hlt]⟩,Pv (i+1),fun σ' H' p'=>⟨xs.length - (i+1),by omega,rfl,hlt,p'⟩,fun x H' y=>?_⟩
  obtain ⟨e,y⟩:=y
  subst e
  exact hs i x σ _ (y xs q) p
 ·have e:i=xs.length:=by omega
  subst e
  exact .inl ⟨⟨xs,q,Nat.le_refl _⟩,hd σ H p⟩
theorem Qu{K:Frag}{a:Addr}{xs:List V}{g:TG}{tb:TS}{D:vT}{σ:St}{H:Hp}(Pv:Nat->St->Hp->Prop)(h0:Pv 0 σ H)(hl:∀ i σ H,i<=xs.length->Pv i σ H->SqT K H a xs)
 (hs:∀ i x σ H,xs[i]?=some x->Pv i σ H->g x σ H fun σ2 H2=>tb { D with nx:=Pv (i+1),ct:=Pv (i+1),bk:=D.nx } σ2 H2) (hd:∀ σ H,Pv xs.length σ H->D.nx σ H) :
 NZ (Itt K a) g tb D σ H:=by
 refine ⟨fun i m σ H=>m=xs.length - i/\i<=xs.length/\Pv i σ H,⟨xs.length,by simp,Nat.zero_le _,h0⟩,?_⟩
 rintro i m σ H ⟨rfl,hi,p⟩
 have q:=hl i σ H hi p
 by_cases hlt:i<xs.length
 ·refine .inr ⟨⟨xs,xs[i],q,by simp [hlt]⟩,Pv (i+1),fun σ' H' p'=>⟨xs.length - (i+1),by omega,rfl,hlt,p'⟩,fun x H' y=>?_⟩
  obtain ⟨e,y⟩:=y
  subst e
  exact hs i x σ _ (y xs q) p
 ·have e:i=xs.length:=by omega
  subst e
  exact .inl ⟨⟨xs,q,Nat.le_refl _⟩,hd σ H p⟩
theorem wM{lo:Int}{n:Nat}{g:TG}{tb:TS}{D:vT}{σ:St}{H:Hp}(Pv:Nat->St->Hp->Prop)(h0:Pv 0 σ H)
 (hs:∀ i σ H,i<n->Pv i σ H->g (.int (lo+i)) σ H fun σ2 H2=>tb { D with nx:=Pv (i+1),ct:=Pv (i+1),bk:=D.nx } σ2 H2) (hd:∀ σ H,Pv n σ H->D.nx σ H) :
 NZ (Itr lo n) g tb D σ H:=by
 refine ⟨fun i m σ H=>m=n - i/\i<=n/\Pv i σ H,⟨n,by simp,Nat.zero_le _,h0⟩,?_⟩
 rintro i m σ H ⟨rfl,hi,p⟩
 by_cases hlt:i<n
 ·refine .inr ⟨hlt,Pv (i+1),fun σ' H' p'=>⟨n - (i+1),by omega,rfl,hlt,p'⟩,fun x H' y=>?_⟩
  obtain ⟨e,y⟩:=y
  subst e y
  exact hs i σ _ hlt p
 ·have e:i=n:=by omega
  subst e
  exact .inl ⟨Nat.le_refl _,hd σ H p⟩
abbrev R2:=V->V->Hp->VK->Prop
def Dr(X:Cx)(f:Value->Value->Sem Value)(r:R2):Prop :=
 ∀ (pins:List (Addr×Obj)) (s:Shared) (σ:St) (H:Hp) (x y:V) (v u:Value) (Q:VK),bN X pins σ H s->cJ x v->cJ y u->r x y H Q →
  wpAny (model X.prog X.w) X.A (f v u) (EP X pins σ Q) X.xe s
def UnR(X:Cx)(f:Value->Sem Value)(r:V->Hp->VK->Prop):Prop :=
 ∀ (pins:List (Addr×Obj)) (s:Shared) (σ:St) (H:Hp) (x:V) (v:Value) (Q:VK),bN X pins σ H s->cJ x v->r x H Q →
  wpAny (model X.prog X.w) X.A (f v) (EP X pins σ Q) X.xe s
def AL(X:Cx)(f:Value)(r:List V->Hp->VK->Prop):Prop :=
 ∀ (pins:List (Addr×Obj)) (s:Shared) (σ:St) (H:Hp) (xs:List V) (us:List Value) (Q:VK),bN X pins σ H s->b9 xs us->r xs H Q →
  wpAny (model X.prog X.w) X.A (call f us) (EP X pins σ Q) X.xe s
def tOp(r:R2)(ta tb:TE):TE:=fun σ H Q=>ta σ H fun x H1=>tb σ H1 fun y H2=>r x y H2 Q
def tUn(r:V->Hp->VK->Prop)(ta:TE):TE:=fun σ H Q=>ta σ H fun x H1=>r x H1 Q
inductive rI(C:Int->Int->Prop)(g:Int->Int->V)(x:V)(y:V)(H:Hp)(Q:VK):Prop
 | mk:∀ i j,x=.int i->y=.int j->C i j->Q (g i j) H->rI C g x y H Q
inductive rI0(g:Int->Int->V)(x:V)(y:V)(H:Hp)(Q:VK):Prop
 | mk:∀ i j,x=.int i->y=.int j->Q (g i j) H->rI0 g x y H Q
inductive rU(g:Int->V)(x:V)(H:Hp)(Q:VK):Prop
 | mk:∀ i,x=.int i->Q (g i) H->rU g x H Q
section
variable {X:Cx}{a b c:Expr}{ta tb tc:TE}{pos:Pos}
theorem QV(ha:PE X a ta)(hb:PE X b tb){pins:List (Addr×Obj)}{s:Shared}{σ:St}{H:Hp}{R:V->V->Hp->Prop}(I:bN X pins σ H s)
 (h:ta σ H fun x H1=>tb σ H1 fun y H2=>R x y H2) {Q:Value->Shared->Prop} {f:Value->Value->Sem Value}
 (hf:∀ v u s2 x y H2,bN X pins σ H2 s2->cJ x v->cJ y u->R x y H2->wpAny (model X.prog X.w) X.A (f v u) Q X.xe s2) :
 wpAny (model X.prog X.w) X.A (eval a X.env) (fun v s₁=>wpAny (model X.prog X.w) X.A (eval b X.env) (fun u s₂=>wpAny (model X.prog X.w) X.A (f v u) Q X.xe s₂) X.xe s₁) X.xe s:=by
 refine eD (ha pins s σ H _ I h) fun v s1 ⟨x,H1,I1,r1,q1⟩=>?_
 refine eD (hb pins s1 σ H1 _ I1 q1) fun u s2 ⟨y,H2,I2,r2,q2⟩=>?_
 exact hf v u s2 x y H2 I2 r1 r2 q2
theorem bW{op:Operator}{r:R2}(ho:Dr X (binaryOp op) r)(ha:PE X a ta)(hb:PE X b tb):PE X (.BinOp a op b pos) (tOp r ta tb):=by
 intro pins s σ H Q I h
 exact wpAny_BinOp (QV ha hb I h fun v u s2 x y H2 I2 rx ry q=>ho pins s2 σ H2 x y v u Q I2 rx ry q)
theorem o7{op:UnaryOp}{r:V->Hp->VK->Prop}(ho:UnR X (unaryOp op) r)(ha:PE X a ta):PE X (.UnaryOp op a pos) (tUn r ta):=by
 intro pins s σ H Q I h
 exact UnaryOp_ (eD (ha pins s σ H _ I h) fun v s1 ⟨x,H1,I1,r1,q1⟩=>ho pins s1 σ H1 x v Q I1 r1 q1)
theorem opI{f:Value->Value->Sem Value}{C:Int->Int->Prop}{g:Int->Int->Int}
 (rule:∀ (i j:Int) (t u:Tok) (s:Shared) (Q:Value->Shared->Prop) (E:Value->Shared->Prop),C i j->Q (.int (g i j) s.toks) { s with toks:=s.toks+1 }->wpAny (model X.prog X.w) X.A (f (.int i t) (.int j u)) Q E s) :
 Dr X f (rI C fun i j=>.int (g i j)):=by
 intro pins s σ H x y v u Q I rx ry h
 obtain ⟨i,j,rfl,rfl,hc,q⟩:=h
 obtain ⟨t,rfl⟩:=rx
 obtain ⟨t',rfl⟩:=ry
 exact rule i j t t' s _ _ hc ⟨.int (g i j),H,I.tok _,⟨_,rfl⟩,q⟩
theorem RW{f:Value->Value->Sem Value}{g:Int->Int->Int}
 (rule:∀ (i j:Int) (t u:Tok) (s:Shared) (Q:Value->Shared->Prop) (E:Value->Shared->Prop),Q (.int (g i j) s.toks) { s with toks:=s.toks+1 }->wpAny (model X.prog X.w) X.A (f (.int i t) (.int j u)) Q E s) :
 Dr X f (rI0 fun i j=>.int (g i j)):=by
 intro pins s σ H x y v u Q I rx ry h
 obtain ⟨i,j,rfl,rfl,q⟩:=h
 obtain ⟨t,rfl⟩:=rx
 obtain ⟨t',rfl⟩:=ry
 exact rule i j t t' s _ _ ⟨.int (g i j),H,I.tok _,⟨_,rfl⟩,q⟩
theorem PN{f:Value->Value->Sem Value}{g:Int->Int->Bool}
 (rule:∀ (i j:Int) (t u:Tok) (s:Shared) (Q:Value->Shared->Prop) (E:Value->Shared->Prop),Q (.bool (g i j)) s->wpAny (model X.prog X.w) X.A (f (.int i t) (.int j u)) Q E s) :
 Dr X f (rI0 fun i j=>.bl (g i j)):=by
 intro pins s σ H x y v u Q I rx ry h
 obtain ⟨i,j,rfl,rfl,q⟩:=h
 obtain ⟨t,rfl⟩:=rx
 obtain ⟨t',rfl⟩:=ry
 exact rule i j t t' s _ _ ⟨.bl (g i j),H,I,rfl,q⟩
def RI(i j:Int):Prop:=0<=j/\j<=1000000/\i.natAbs<2 ^ 64
def PV(i j:Int):Prop:=(-(2 ^ 64)<i/\i<2 ^ 64)\/(-(2 ^ 64)<j/\j<2 ^ 64)
theorem PV.ok{i j:Int}(h:PV i j):IntMulOk i j:=by
 rcases h with ⟨h1,h2⟩|⟨h1,h2⟩
 ·exact .of_left (intBits_le_64 h1 h2)
 ·exact .of_right (intBits_le_64 h1 h2)
theorem iK:Dr X (binaryOp .Add) (rI0 fun i j=>.int (i+j)):=RW fun _ _ _ _ _ _ _ q=>add_int q
theorem jW:Dr X (binaryOp .Sub) (rI0 fun i j=>.int (i - j)):=RW fun _ _ _ _ _ _ _ q=>sub_int q
theorem Eu:Dr X (binaryOp .Mult) (rI PV fun i j=>.int (i*j)):=opI fun _ _ _ _ _ _ _ hc q=>mul_int q hc.ok
theorem Jt:Dr X (binaryOp .Pow) (rI RI fun i j=>.int (i ^ j.toNat)):=opI fun _ _ _ _ _ _ _ hc q=>pow_int_small hc.1 hc.2.1 hc.2.2 q
theorem unI{f:Value->Sem Value}{g:Int->Int}
 (rule:∀ (i:Int) (t:Tok) (s:Shared) (Q:Value->Shared->Prop) (E:Value->Shared->Prop),Q (.int (g i) s.toks) { s with toks:=s.toks+1 }->wpAny (model X.prog X.w) X.A (f (.int i t)) Q E s) :
 UnR X f (rU fun i=>.int (g i)):=by
 intro pins s σ H x v Q I rx h
 obtain ⟨i,rfl,q⟩:=h
 obtain ⟨t,rfl⟩:=rx
 exact rule i t s _ _ ⟨.int (g i),H,I.tok _,⟨_,rfl⟩,q⟩
theorem jV:UnR X (unaryOp .USub) (rU fun i=>.int (-i)):=unI fun _ _ _ _ _ q=>neg_int q
end
def Sq:V->V->Bool
 | .eX,.eX=>true|.eX,.int _=>true|.int _,.eX=>true|.eX,.bl _=>true|.bl _,.eX=>true|.eX,.str _=>true|.str _,.eX=>true
 | .int _,.int _=>true|.bl _,.bl _=>true|.str _,.str _=>true|.byt _,.byt _=>true
 | .int _,.str _=>true|.str _,.int _=>true|.bl _,.str _=>true|.str _,.bl _=>true
 | _,_=>false
def rEq:R2:=fun x y H Q=>Sq x y=true/\Q (.bl (decide (x=y))) H
def rNe:R2:=fun x y H Q=>Sq x y=true/\Q (.bl (!decide (x=y))) H
theorem Mw{i j:Int}:decide (V.int i=V.int j)=(i==j):=by
 rw [Bool.eq_iff_iff]
 simp
theorem O2{i j:Bool}:decide (V.bl i=V.bl j)=(i==j):=by
 rw [Bool.eq_iff_iff]
 simp
theorem MM{i j:Str}:decide (V.str i=V.str j)=(i==j):=by
 rw [Bool.eq_iff_iff]
 simp
theorem Ms{i j:Array UInt8}:decide (V.byt i=V.byt j)=(i.toList==j.toList):=by
 rw [Bool.eq_iff_iff]
 cases i
 cases j
 simp
section
variable {X:Cx}{a b c:Expr}{ta tb tc:TE}{pos:Pos}
theorem dA{pins:List (Addr×Obj)}{σ:St}{H:Hp}{s:Shared}{Q:VK}{k k':Bool}(I:bN X pins σ H s)(q:Q (.bl k) H)(e:k=k'):EP X pins σ Q (.bool k') s:=by
 subst e
 exact ⟨.bl k,H,I,rfl,q⟩
theorem bY:Dr X (compareOp .Eq) rEq:=by
 intro pins s σ H x y v u Q I rx ry h
 obtain ⟨hs,q⟩:=h
 cases x with
 | eX =>
  cases rx
  cases y with
  | eX=>cases ry;exact PySem.EqNone.eq_none_none (dA I q (by simp))
  | bl j=>cases ry;exact PySem.EqNone.eq_none_bool (dA I q (by simp))
  | int j=>obtain ⟨t',rfl⟩:=ry;exact PySem.EqNone.eq_none_int (dA I q (by simp))
  | str j=>obtain ⟨t',rfl⟩:=ry;exact PySem.EqNone.eq_none_str (dA I q (by simp))
  | _=>exact absurd (show false=true from hs) Bool.false_ne_true
 | bl i =>
  cases rx
  cases y with
  | eX=>cases ry;exact PySem.EqNone.eq_bool_none (dA I q (by simp))
  | bl j=>cases ry;exact eq_bool (dA I q O2)
  | str j=>obtain ⟨t',rfl⟩:=ry;exact PySem.EqMixed.eq_bool_str (dA I q (by simp))
  | _=>exact absurd (show false=true from hs) Bool.false_ne_true
 | int i =>
  obtain ⟨t,rfl⟩:=rx
  cases y with
  | eX=>cases ry;exact PySem.EqNone.eq_int_none (dA I q (by simp))
  | int j=>obtain ⟨t',rfl⟩:=ry;exact eq_int (dA I q Mw)
  | str j=>obtain ⟨t',rfl⟩:=ry;exact PySem.EqMixed.eq_int_str (dA I q (by simp))
  | _=>exact absurd (show false=true from hs) Bool.false_ne_true
 | str i =>
  obtain ⟨t,rfl⟩:=rx
  cases y with
  | eX=>cases ry;exact PySem.EqNone.eq_str_none (dA I q (by simp))
  | bl j=>cases ry;exact PySem.EqMixed.eq_str_bool (dA I q (by simp))
  | int j=>obtain ⟨t',rfl⟩:=ry;exact PySem.EqMixed.eq_str_int (dA I q (by simp))
  | str j=>obtain ⟨t',rfl⟩:=ry;exact eq_str (dA I q MM)
  | _=>exact absurd (show false=true from hs) Bool.false_ne_true
 | byt i =>
  obtain ⟨t,rfl⟩:=rx
  cases y with
  | byt j=>obtain ⟨t',rfl⟩:=ry;exact PySem.W.eq_bytes (dA I q Ms)
  | _=>exact absurd (show false=true from hs) Bool.false_ne_true
 | _=>cases y<;>exact absurd (show false=true from hs) Bool.false_ne_true
theorem Mm:Dr X (compareOp .NotEq) rNe:=by
 intro pins s σ H x y v u Q I rx ry h
 obtain ⟨hs,q⟩:=h
 cases x with
 | eX =>
  cases rx
  cases y with
  | eX=>cases ry;exact PySem.EqNone.ne_none_none (dA I q (by simp))
  | bl j=>cases ry;exact PySem.EqNone.ne_none_bool (dA I q (by simp))
  | int j=>obtain ⟨t',rfl⟩:=ry;exact PySem.EqNone.ne_none_int (dA I q (by simp))
  | str j=>obtain ⟨t',rfl⟩:=ry;exact PySem.EqNone.ne_none_str (dA I q (by simp))
  | _=>exact absurd (show false=true from hs) Bool.false_ne_true
 | bl i =>
  cases rx
  cases y with
  | eX=>cases ry;exact PySem.EqNone.ne_bool_none (dA I q (by simp))
  | bl j=>cases ry;exact ne_bool (dA I q (congrArg not O2))
  | str j=>obtain ⟨t',rfl⟩:=ry;exact PySem.EqMixed.ne_bool_str (dA I q (by simp))
  | _=>exact absurd (show false=true from hs) Bool.false_ne_true
 | int i =>
  obtain ⟨t,rfl⟩:=rx
  cases y with
  | eX=>cases ry;exact PySem.EqNone.ne_int_none (dA I q (by simp))
  | int j=>obtain ⟨t',rfl⟩:=ry;exact ne_int (dA I q (congrArg not Mw))
  | str j=>obtain ⟨t',rfl⟩:=ry;exact PySem.EqMixed.ne_int_str (dA I q (by simp))
  | _=>exact absurd (show false=true from hs) Bool.false_ne_true
 | str i =>
  obtain ⟨t,rfl⟩:=rx
  cases y with
  | eX=>cases ry;exact PySem.EqNone.ne_str_none (dA I q (by simp))
  | bl j=>cases ry;exact PySem.EqMixed.ne_str_bool (dA I q (by simp))
  | int j=>obtain ⟨t',rfl⟩:=ry;exact PySem.EqMixed.ne_str_int (dA I q (by simp))
  | str j=>obtain ⟨t',rfl⟩:=ry;exact ne_str (dA I q (congrArg not MM))
  | _=>exact absurd (show false=true from hs) Bool.false_ne_true
 | byt i =>
  obtain ⟨t,rfl⟩:=rx
  cases y with
  | byt j=>obtain ⟨t',rfl⟩:=ry;exact PySem.W.ne_bytes (dA I q (congrArg not Ms))
  | _=>exact absurd (show false=true from hs) Bool.false_ne_true
 | _=>cases y<;>exact absurd (show false=true from hs) Bool.false_ne_true
theorem nA:Dr X (compareOp .Lt) (rI0 fun i j=>.bl (decide (i<j))):=PN fun _ _ _ _ _ _ _ q=>lt_int q
theorem pT:Dr X (compareOp .LtE) (rI0 fun i j=>.bl (decide (i<=j))):=PN fun _ _ _ _ _ _ _ q=>le_int q
theorem sP:Dr X (compareOp .Gt) (rI0 fun i j=>.bl (decide (j<i))):=PN fun _ _ _ _ _ _ _ q=>gt_int q
theorem Mz:Dr X (compareOp .GtE) (rI0 fun i j=>.bl (decide (j<=i))):=PN fun _ _ _ _ _ _ _ q=>ge_int q
theorem N8(b:Expr){op:CmpOp}(h:op≠.In:=by decide)(h2:op≠.NotIn:=by decide):behindInMarks op b=false:=by
 have e1:(op==CmpOp.In)=false:=by cases op<;>first|rfl|exact absurd rfl h
 have e2:(op==CmpOp.NotIn)=false:=by cases op<;>first|rfl|exact absurd rfl h2
 cases b<;>simp [behindInMarks,e1,e2]
theorem PX{op:CmpOp}{r:R2}(ho:Dr X (compareOp op) r)(ha:PE X a ta)(hb:PE X b tb)(hm:behindInMarks op b=false):PE X (.Compare a [op] [b] pos) (tOp r ta tb):=by
 intro pins s σ H Q I h
 exact wpAny_Compare1 (QV ha hb I h fun v u s2 x y H2 I2 rx ry q=>ho pins s2 σ H2 x y v u Q I2 rx ry q) hm
def Oq(t:TE):TT:=fun σ H Q=>t σ H fun x H'=>xB x fun k=>Q k H'
theorem BY{op:CmpOp}{r:R2}(ho:Dr X (compareOp op) r)(ha:PE X a ta)(hb:PE X b tb)(hm:behindInMarks op b=false):PT X (.Compare a [op] [b] pos) (Oq (tOp r ta tb)):=by
 intro pins s σ H Q I h
 refine wpAny_isTrue_Compare1 (eD (ha pins s σ H _ I h) fun v s1 ⟨x,H1,I1,r1,q1⟩=>eD (hb pins s1 σ H1 _ I1 q1) fun u s2 ⟨y,H2,I2,r2,q2⟩ =>
  eD (ho pins s2 σ H2 x y v u _ I2 r1 r2 q2) fun c s3 ⟨z,H3,I3,r3,k,e,q3⟩=>?_) hm
 subst e
 cases r3
 exact wpAny_truthy_bool ⟨H3,I3,q3⟩
def N1(r r':R2)(ta tb tc:TE):TE:=fun σ H Q=>ta σ H fun x H1=>tb σ H1 fun y H2=>r x y H2 fun z H3=>∃ k,z=.bl k ∧
 (if k=true then tc σ H3 fun w' H4=>r' y w' H4 Q else Q (.bl false) H3)
theorem EV{op op':CmpOp}{r r':R2}(ho:Dr X (compareOp op) r)(ho':Dr X (compareOp op') r')(ha:PE X a ta)(hb:PE X b tb)(hc:PE X c tc)
 (hm:lastMarks [op,op'] [b,c]=false:=by with_unfolding_all rfl):PE X (.Compare a [op,op'] [b,c] pos) (N1 r r' ta tb tc):=by
 intro pins s σ H Q I h
 refine Compare_chain (eD (ha pins s σ H _ I h) fun v s1 ⟨x,H1,I1,r1,q1⟩=>chain_link (eD (hb pins s1 σ H1 _ I1 q1) fun u s2 ⟨y,H2,I2,r2,q2⟩ =>
  eD (ho pins s2 σ H2 x y v u _ I2 r1 r2 q2) fun d s3 ⟨z,H3,I3,r3,k,e,q3⟩=>?_)) hm
 subst e
 cases r3
 refine wpAny_truthy_bool ?_
 cases k with
 | false=>exact ite_ff ⟨.bl false,H3,I3,rfl,q3⟩
 | true=>exact ite_tt (chain_last (eD (hc pins s3 σ H3 _ I3 q3) fun w' s4 ⟨z',H4,I4,r4,q4⟩=>ho' pins s4 σ H4 y z' u w' Q I4 r2 r4 q4))
theorem Pn{op op':CmpOp}{r r':R2}(ho:Dr X (compareOp op) r)(ho':Dr X (compareOp op') r')(ha:PE X a ta)(hb:PE X b tb)(hc:PE X c tc)
 (hm:lastMarks [op,op'] [b,c]=false:=by with_unfolding_all rfl):PT X (.Compare a [op,op'] [b,c] pos) (Oq (N1 r r' ta tb tc)):=by
 intro pins s σ H Q I h
 refine isTrue_chain (eD (ha pins s σ H _ I h) fun v s1 ⟨x,H1,I1,r1,q1⟩=>test_link (eD (hb pins s1 σ H1 _ I1 q1) fun u s2 ⟨y,H2,I2,r2,q2⟩ =>
  eD (ho pins s2 σ H2 x y v u _ I2 r1 r2 q2) fun d s3 ⟨z,H3,I3,r3,k,e,q3⟩=>?_)) hm
 subst e
 cases r3
 refine wpAny_truthy_bool ?_
 cases k with
 | false =>
  obtain ⟨k',e',q'⟩:=q3
  cases e'
  exact ite_ff ⟨H3,I3,q'⟩
 | true =>
  refine ite_tt (test_last (eD (hc pins s3 σ H3 _ I3 q3) fun w' s4 ⟨z',H4,I4,r4,q4⟩=>eD (ho' pins s4 σ H4 y z' u w' _ I4 r2 r4 q4) fun d' s5 ⟨z2,H5,I5,r5,k2,e2,q5⟩=>?_))
  subst e2
  cases r5
  exact wpAny_truthy_bool ⟨H5,I5,q5⟩
theorem IB:(sizeLine:Nat)<2 ^ 63:=by rw [sizeLine_eq];decide
theorem O8{x:V}{us:List Value}(r:b9 [x] us):∃ u,us=[u]/\cJ x u:=by
 cases r with
 | cons r1 r2=>cases r2;exact ⟨_,rfl,r1⟩
theorem QF{x y:V}{us:List Value}(r:b9 [x,y] us):∃ u w',us=[u,w']/\cJ x u/\cJ y w':=by
 cases r with
 | cons r1 r2 =>
  cases r2 with
  | cons r3 r4=>cases r4;exact ⟨_,_,rfl,r1,r3⟩
inductive r2I(g:Int->Int->Int)(xs:List V)(H:Hp)(Q:VK):Prop
 | mk:∀ i j,xs=[.int i,.int j]->Q (.int (g i j)) H->r2I g xs H Q
theorem Hf(hc:X.calm=true):AL X (.builtin "max") (r2I fun i j=>if j > i then j else i):=by
 intro pins s σ H xs us Q I r h
 obtain ⟨i,j,rfl,q⟩:=h
 obtain ⟨u,w',rfl,⟨t,rfl⟩,⟨t',rfl⟩⟩:=QF r
 refine max_two_ints (I.ok.hd hc) fun h' tk k=>⟨_,H,I.kept k,?_,q⟩
 by_cases hj:j > i
 ·rw [if_pos hj,if_pos hj];exact ⟨_,rfl⟩
 ·rw [if_neg hj,if_neg hj];exact ⟨_,rfl⟩
theorem wK(hc:X.calm=true):AL X (.builtin "min") (r2I fun i j=>if j<i then j else i):=by
 intro pins s σ H xs us Q I r h
 obtain ⟨i,j,rfl,q⟩:=h
 obtain ⟨u,w',rfl,⟨t,rfl⟩,⟨t',rfl⟩⟩:=QF r
 refine min_two_ints (I.ok.hd hc) fun h' tk k=>⟨_,H,I.kept k,?_,q⟩
 by_cases hj:j<i
 ·rw [if_pos hj,if_pos hj];exact ⟨_,rfl⟩
 ·rw [if_neg hj,if_neg hj];exact ⟨_,rfl⟩
end
structure LV(h:Heap)(x dx C:Addr)(mA:Str->Option Value):Prop where
 obj:h.get? x=some (instObj C dx)
 ns:h.Ns1 dx mA
 ne:dx≠x
theorem Nr{h:Heap}{dx:Addr}{mA:Str->Option Value}(n:h.Ns1 dx mA):∃ od,h.get? dx=some od/\∀ name,lookIn name od=some (mA name):=by
 obtain ⟨o,es,ep,ho,hd,hk,_,hm⟩:=n
 refine ⟨o,ho,fun name=>?_⟩
 have e:=hm name
 unfold nsFind findBy at e
 rw [<-Array.find?_toList] at e
 unfold lookIn
 rw [hd]
 dsimp only
 split
 ·rename_i y q
  rw [q] at e
  exact congrArg some e
 ·rename_i q
  rw [q] at e
  have a:es.toList.any (·.refKey)=false:=by
   rw [List.any_eq_false]
   intro y hy
   obtain ⟨z,t,hkey⟩:=hk y (Array.mem_toList_iff.mp hy)
   simp [DictEntry.refKey,hkey]
  have a':¬ es.toList.any (·.refKey)=true:=by rw [a];exact Bool.false_ne_true
  rw [if_neg a']
  exact congrArg some e
theorem LV.look{h:Heap}{x dx C:Addr}{mA:Str->Option Value}(I:LV h x dx C mA):∃ od,PySem.W.InstAt h x (instObj C dx) C (some od)/\∀ name,lookIn name od=some (mA name) :=
 let ⟨od,ho,hl⟩:=Nr I.ns
 ⟨od,⟨I.obj,rfl,rfl,ho⟩,hl⟩
section
variable {prog:Program}{w:World}{A:Around}{E:Value->Shared->Prop}{s:Shared}{K:Frag}{x dx C f:Addr}{mA:Str->Option Value}{name:Str}{v:Value}
theorem PL{expr:Bool}{Q:Value->Shared->Prop}(X:K.In s.heap)(I:LV s.heap x dx C mA)(hg:plainGet K C name=true)(hh:PySem.W.hasDictIn K C=true)
 (ha:findIn K (.ref C) name=some none) (hv:mA name=some v) (hv':PySem.W.handedIn v=true) (h:Q v { s with toks:=s.toks+1 }) :
 wpAny (model prog w) A (getAttr (.ref x) name expr) Q E s:=by
 obtain ⟨od,J,hl⟩:=I.look
 exact PySem.W.get_value X J (PySem.W.plainGet_of hg).1 (PySem.W.findObj_own hh ha rfl (by rw [hl,hv])) hv' h
theorem Oy{pl:Sem Bool}{Q:Value×List Value->Shared->Prop}(X:K.In s.heap)(I:LV s.heap x dx C mA)(hg:plainGet K C name=true)
 (hf:findIn K (.ref C) name=some (some (.ref f))) (ht:isFn K (.ref f)=true) (hv:mA name=none) (h:Q (.ref f,[.ref x]) s) :
 wpAny (model prog w) A (getMethod (.ref x) name pl) Q E s:=by
 obtain ⟨od,J,hl⟩:=I.look
 exact PySem.W.method_fn X J (PySem.W.plainGet_of hg).1 (PySem.W.plainGet_of hg).2 hf (beq_iff_eq.mp ht) (by show (lookIn name od).map (·.isSome)=some false;rw [hl,hv];rfl) h
theorem Pz{ns:List Str}{Q:Unit->Shared->Prop}(X:K.In s.heap)(I:LV s.heap x dx C mA)
 (hs:findIn K (.ref C) "__setattr__"=some (some (.builtin "object.__setattr__"))) (hp:PySem.W.plainOver K C=true) (ht:PySem.W.takerIn K C name=some none) (hh:PySem.W.hasDictIn K C=true)
 (hw:PySem.Within mA ns) (hsz:ns.length<=sizeLine)
 (h:∀ h',LV h' x dx C (fun y=>if y=name then some v else mA y)->Heap.SameBut dx s.heap h'->Q () { s with heap:=h',toks:=s.toks+2 }) :
 wpAny (model prog w) A (setAttr (.ref x) name v) Q E s:=by
 obtain ⟨od,J,hl⟩:=I.look
 refine PySem.W.set_plain X J hs (PySem.W.osa_open (s:={ s with toks:=s.toks+1 }) (r:=none) X J hp ht fun b=>?_)
 obtain ⟨cd,hc,hd'⟩:=PySem.W.any_some hh
 have hx:s.heap.get? x=some ⟨.ref C,some dx,.plain,#[]⟩:=I.obj
 refine wpAny_bind (wpAny_pure (wpAny_bind (wpAny_bind (wpAny_loadPart hx (wpAny_bind (PySem.W.Looks.here (s:={ s with toks:=s.toks+1 }) (PySem.W.looks_clsIn X hc) ?_))))))
 rw [hd']
 refine wpAny_pure (a:=some dx) (wpAny_bind (wpAny_pure (wpAny_bind ?_)))
 refine wpAny_nsSet1 (s:={ s with toks:=s.toks+1 }) I.ns fun h' hn2 hs2=>?_
 obtain ⟨oD,esD,epD,hoD,hdD,hcD⟩:=hn2.count (PySem.Within.cons name v hw)
 refine wpAny_bind (wpAny_lookBehind hoD (by rw [hdD];exact pastItsLine_dict (Nat.le_trans hcD (by rw [length_cons];omega))) ?_)
 exact wpAny_pure (h _ ⟨(hs2.2 _ (Ne.symm I.ne)).trans I.obj,hn2,I.ne⟩ hs2)
theorem N3{R:Result->Shared->Prop}{vs:List Value}{kw:List (Str×Value)}(X:K.In s.heap)(hm:PySem.W.makesIn K C=true)
 (hi:findIn K (.ref C) "__init__"=some (some (.ref f))) (hf:PySem.W.typeIn K (.ref f)=some (.type "function"))
 (h:codeAny (model prog w) (A.under (.builtin "type.__call__" ⟨.ref C::vs,kw⟩)) (.call (.ref f) ⟨.ref (s.heap.objs.size+1)::vs,kw⟩) (PySem.W.InitBack (s.heap.objs.size+1) R)
  { s with heap:=(s.heap.push emptyDict).push (instObj C s.heap.objs.size) }) :
 codeAny (model prog w) A (.call (.ref C) ⟨vs,kw⟩) R s:=by
 obtain ⟨hh,g,d,t,os⟩:=s
 exact PySem.W.make_core (PySem.W.makes_of X hm) (PySem.W.looks_findIn X hi) (fun self=>PySem.W.bind_fn X self hf) (.inl rfl) h
end
def mU(f:Str)(v:V):List (Str×V)->List (Str×V)
 | []=>[(f,v)]
 | (g,x)::r=>if g=f then (g,v)::r else (g,x)::mU f v r
theorem Dj(f g:Str)(v:V):∀ fs:List (Str×V),(mU f v fs).lookup g=if g=f then some v else fs.lookup g
 | []=>by
  show List.lookup g [(f,v)]=_
  by_cases h:g=f
  ·have hb:(g==f)=true:=beq_iff_eq.mpr h
   simp only [List.lookup,hb,if_pos h]
  ·have hb:(g==f)=false:=beq_eq_false_iff_ne.mpr h
   simp only [List.lookup,hb,if_neg h]
 | (k,x)::r=>by
  have ih:=Dj f g v r
  rw [show mU f v ((k,x)::r)=(if k=f then (k,v)::r else (k,x)::mU f v r) from rfl]
  by_cases hk:k=f
  ·rw [if_pos hk]
   by_cases h:g=k
   ·have hb:(g==k)=true:=beq_iff_eq.mpr h
    simp only [List.lookup,hb,if_pos (h.trans hk)]
   ·have hb:(g==k)=false:=beq_eq_false_iff_ne.mpr h
    simp only [List.lookup,hb,if_neg (fun e:g=f=>h (e.trans hk.symm))]
  ·rw [if_neg hk]
   by_cases h:g=k
   ·have hb:(g==k)=true:=beq_iff_eq.mpr h
    simp only [List.lookup,hb,if_neg (fun e:g=f=>hk (h.symm.trans e))]
   ·have hb:(g==k)=false:=beq_eq_false_iff_ne.mpr h
    simp only [List.lookup,hb]
    exact ih
theorem Cj(f:Str)(v:V):∀ fs:List (Str×V),f∈(mU f v fs).map (·.1)/\∀ g,g∈fs.map (·.1)->g∈(mU f v fs).map (·.1)
 | []=>⟨by simp [mU],fun g h=>by simp at h⟩
 | (k,x)::r=>by
  obtain ⟨i1,i2⟩:=Cj f v r
  rw [show mU f v ((k,x)::r)=(if k=f then (k,v)::r else (k,x)::mU f v r) from rfl]
  by_cases hk:k=f
  ·rw [if_pos hk]
   subst hk
   exact ⟨by simp,fun g h=>by simpa using h⟩
  ·rw [if_neg hk]
   refine ⟨?_,fun g h=>?_⟩
   ·rw [map_cons]
    exact mem_cons_of_mem _ i1
   ·rw [map_cons] at h ⊢
    rcases mem_cons.mp h with e|e
    ·exact mem_cons.mpr (.inl e)
    ·exact mem_cons_of_mem _ (i2 g e)
theorem De(f:Str)(v:V):∀ fs:List (Str×V),(mU f v fs).length<=fs.length+1
 | []=>by simp [mU]
 | (k,x)::r=>by
  have ih:=De f v r
  rw [show mU f v ((k,x)::r)=(if k=f then (k,v)::r else (k,x)::mU f v r) from rfl]
  by_cases hk:k=f
  ·rw [if_pos hk,length_cons,length_cons];omega
  ·rw [if_neg hk,length_cons,length_cons];omega
theorem xG.some_of{v:V}{o:Option Value}(r:xG (some v) o):∃ u,o=some u/\cJ v u:=by
 cases o with
 | none=>exact (show False from r).elim
 | some u=>exact ⟨u,rfl,r⟩
theorem xG.none_of{o:Option Value}(r:xG none o):o=none:=by
 cases o with
 | none=>rfl
 | some u=>exact (show False from r).elim
theorem NS{v:V}{u:Value}(r:cJ v u):PySem.W.handedIn u=true:=by
 cases v with
 | eX=>cases (show u=Value.none from r);rfl
 | bl b=>cases (show u=Value.bool b from r);rfl
 | int i=>obtain ⟨t,e⟩:=(show ∃ t,u=Value.int i t from r);cases e;rfl
 | str x=>obtain ⟨t,e⟩:=(show ∃ t,u=Value.str x t from r);cases e;rfl
 | byt b=>obtain ⟨t,e⟩:=(show ∃ t,u=Value.bytes b t from r);cases e;rfl
 | flt b=>obtain ⟨t,e⟩:=(show ∃ t,u=Value.float b t from r);cases e;rfl
 | ref a=>cases (show u=Value.ref a from r);rfl
 | ty n=>cases (show u=Value.type n from r);rfl
section
variable {P:Program}{w:World}{H H':Hp}{h h':Heap}{a C dx:Addr}{fs fs':List (Str×V)}
theorem IQ(eE:sS P w H h)(e:H a=some (.ins C dx fs)):∃ mA,LV h a dx C mA/\(∀ f,xG (fs.lookup f) (mA f))/\PySem.Within mA (fs.map (·.1))/\fs.length<=1000/\H dx=some (.own a):=by
 obtain ⟨d,z,ne,ob,mA,n,r,q⟩:=(show iF P w H h a (.ins C dx fs) from eE a _ e)
 exact ⟨mA,⟨ob,n,ne⟩,r,q,z,d⟩
end
structure Cls(K:Frag)(C:Addr):Prop where
 pg:plainGet K C Str.empty=true
 hd:PySem.W.hasDictIn K C=true
 po:PySem.W.plainOver K C=true
 sa:findIn K (.ref C) "__setattr__"=some (some (.builtin "object.__setattr__"))
theorem Cls.get{K:Frag}{C:Addr}(c:Cls K C)(f:Str):plainGet K C f=true:=c.pg
def bP(K:Frag)(C:Addr)(f:Str):Prop:=findIn K (.ref C) f=some none
theorem bP.RR{K:Frag}{C:Addr}{f:Str}(n:bP K C f):PySem.W.takerIn K C f=some none:=by
 unfold PySem.W.takerIn
 rw [show findIn K (.ref C) f=some none from n]
 rfl
structure PB(K:Frag)(C:Addr)(m:Str)(f:Addr):Prop where
 at_:findIn K (.ref C) m=some (some (.ref f))
 fn:isFn K (.ref f)=true
 kp:keepIn K (.ref f)=true
section
variable {X:Cx}{pins:List (Addr×Obj)}{σ:St}{H:Hp}{s:Shared}{a C dx:Addr}{fs:List (Str×V)}{f:Str}{v:V}{A:Around}{E:Value->Shared->Prop}
theorem o9{b:Bool}{Q:Value->Shared->Prop}(I:bN X pins σ H s)(e:H a=some (.ins C dx fs))(c:Cls X.K C)(n:bP X.K C f)(l:fs.lookup f=some v)
 (h:∀ u s',bN X pins σ H s'->cJ v u->Q u s'):wpAny (model X.prog X.w) A (getAttr (.ref a) f b) Q E s:=by
 obtain ⟨mA,O,r,_,_,_⟩:=IQ I.eE e
 obtain ⟨u,hu,ru⟩:=xG.some_of (v:=v) (o:=mA f) (by rw [<-l];exact r f)
 exact PL I.kIn O (c.get f) c.hd n hu (NS ru) (h u _ (I.tok _) ru)
theorem FA{m:Str}{g:Addr}{pl:Sem Bool}{Q:Value×List Value->Shared->Prop}(I:bN X pins σ H s)(e:H a=some (.ins C dx fs))(c:Cls X.K C)(k:PB X.K C m g)(l:fs.lookup m=none)
 (h:Q (.ref g,[.ref a]) s):wpAny (model X.prog X.w) A (getMethod (.ref a) m pl) Q E s:=by
 obtain ⟨mA,O,r,_,_,_⟩:=IQ I.eE e
 have hn:mA m=none:=xG.none_of (by rw [<-l];exact r m)
 exact Oy I.kIn O (c.get m) k.at_ k.fn hn h
theorem FH{y:V}{u:Value}{Q:Unit->Shared->Prop}(I:bN X pins σ H s)(e:H a=some (.ins C dx fs))(c:Cls X.K C)(n:bP X.K C f)(hl:fs.length<1000)(ry:cJ y u)
 (h:∀ s',bN X pins σ (a6 H a (.ins C dx (mU f y fs))) s'->Q () s'):wpAny (model X.prog X.w) A (setAttr (.ref a) f u) Q E s:=by
 obtain ⟨mA,O,r,wi,_,ho⟩:=IQ I.eE e
 have hz:(fs.map (·.1)).length<=sizeLine:=by rw [length_map,sizeLine_eq];omega
 refine Pz I.kIn O c.sa c.po n.RR c.hd wi hz fun h' O' sb=>h _ ?_
 have hd:∃ o,h'.get? dx=some o:=let ⟨o,_,_,e',_⟩:=O'.ns;⟨o,e'⟩
 refine I.write (x:=a) (e:=dx) (by rw [e];exact True.intro) (.inr ho) (fun b q hb z=>(sb.2 b hb).trans z) hd ?_
 refine ⟨by rw [aJ O.ne];exact ho,?_,O.ne,O'.obj,_,O'.ns,fun g=>?_,fun g hg=>?_⟩
 ·have:=De f y fs;omega
 ·show xG ((mU f y fs).lookup g) (if g=f then some u else mA g)
  rw [Dj]
  by_cases q:g=f
  ·rw [if_pos q,if_pos q];exact ry
  ·rw [if_neg q,if_neg q];exact r g
 ·by_cases q:g=f
  ·rw [q];exact (Cj f y fs).1
  ·refine (Cj f y fs).2 g (wi g fun z=>hg ?_)
   show (if g=f then some u else mA g)=none
   rw [if_neg q];exact z
theorem bN.made(I:bN X pins σ H s):bN X pins σ (a6 (a6 H s.heap.objs.size (.own (s.heap.objs.size+1))) (s.heap.objs.size+1) (.ins C s.heap.objs.size []))
 { s with heap:=(s.heap.push emptyDict).push (instObj C s.heap.objs.size) }:=by
 have e1:(s.heap.push emptyDict).get? s.heap.objs.size=some emptyDict:=Heap.get?_push_size s.heap rfl
 have e2:((s.heap.push emptyDict).push (instObj C s.heap.objs.size)).get? (s.heap.objs.size+1)=some (instObj C s.heap.objs.size):=by
  have:=Heap.get?_push_size (s.heap.push emptyDict) (o:=instObj C s.heap.objs.size) rfl
  rwa [Heap.size_push] at this
 have e3:(s.heap.push emptyDict).Ns s.heap.objs.size (fun _=>none):=⟨emptyDict,#[],_,e1,rfl,(fun e he=>absurd he (by simp)),fun _=>rfl⟩
 have I1:=I.laid (a:=s.heap.objs.size) (o:=.own (s.heap.objs.size+1)) (h':=s.heap.push emptyDict) (t':=s.toks) (fun b u q=>Heap.get?_push_of_some _ q) (Nat.le_refl _) ⟨_,e1⟩
 refine I1.laid (a:=s.heap.objs.size+1) (o:=.ins C s.heap.objs.size []) (t':=s.toks) (fun b u q=>Heap.get?_push_of_some _ q) (Nat.le_of_eq (Heap.size_push _ _)) ?_
 have ne:s.heap.objs.size≠s.heap.objs.size+1:=Nat.ne_of_lt (Nat.lt_succ_self _)
 refine ⟨by rw [aJ ne,aD],Nat.zero_le _,ne,e2,fun _=>none,(Heap.Ns1.of_empty e3).at fun o q=>Heap.get?_push_of_some _ q,fun _=>True.intro,fun y hy=>absurd rfl hy⟩
theorem D4{prog:Program}{w:World}{env:Env}{e:Expr}{f:Str}{pos:Pos}{s:Shared}{Q:Value->Shared->Prop}(hb:attributeBase e f env (eval e env)=eval e env)
 (h:wpAny (model prog w) A (eval e env) (fun o s₁=>wpAny (model prog w) A (getAttr o f true) Q E s₁) E s):wpAny (model prog w) A (eval (.Attribute e f pos) env) Q E s :=
 Attribute_any_ h (by rw [arm_eval_Attribute,hb])
end
def Q6(X:Cx)(op:Operator)(rd:V->V->Hp->VK->Prop):Prop :=
 ∀ (pins:List (Addr×Obj)) (s:Shared) (σ:St) (H:Hp) (x y:V) (u v:Value) (Q:VK),bN X pins σ H s->cJ x u->cJ y v->rd x y H Q->wpAny (model X.prog X.w) X.A (inplaceOp op u v) (EP X pins σ Q) X.xe s
section
variable {X:Cx}{o e value:Expr}{f:Str}{pos pos' tpos:Pos}{ta tv:TE}
def SS:V->V->Hp->VK->Prop:=fun x y H Q=>∃ i j,x=.int i/\y=.int j/\Q (.int (i+j)) H
def Td:V->V->Hp->VK->Prop:=fun x y H Q=>∃ i j,x=.int i/\y=.int j/\Q (.int (i - j)) H
theorem m9:Q6 X .Add SS:=by
 rintro pins s σ H x y u v Q I rx ry ⟨i,j,rfl,rfl,q⟩
 obtain ⟨t,rfl⟩:=(show ∃ t,u=Value.int i t from rx)
 obtain ⟨t',rfl⟩:=(show ∃ t',v=Value.int j t' from ry)
 exact PyProof.Rows.iadd_int ⟨.int (i+j),H,I.tok _,⟨_,rfl⟩,q⟩
theorem QY:Q6 X .Sub Td:=by
 rintro pins s σ H x y u v Q I rx ry ⟨i,j,rfl,rfl,q⟩
 obtain ⟨t,rfl⟩:=(show ∃ t,u=Value.int i t from rx)
 obtain ⟨t',rfl⟩:=(show ∃ t',v=Value.int j t' from ry)
 exact PyProof.Rows.isub_int ⟨.int (i - j),H,I.tok _,⟨_,rfl⟩,q⟩
end
structure iW(k:Nat)(A:Around):Prop where
 hd:A.handled=none
 dp:A.depth+3*k+5<recursionLimit
 un:A.units+16*k+200<cLine
theorem iW.mono{j k:Nat}{A:Around}(r:iW k A)(h:j<=k):iW j A:=⟨r.hd,by have:=r.dp;omega,by have:=r.un;omega⟩
theorem iW.deeper{k:Nat}{A:Around}(r:iW (k+1) A)(env:Env):iW k (A.deeper env) :=
 ⟨r.hd,by have:=r.dp;show A.depth+1+3*k+5<_;omega,by have:=r.un;show A.units+3+16*k+200<_;omega⟩
theorem Lp{A:Around}{C:Addr}{us:List Value}{kw:List (Str×Value)}:(A.under (.builtin "type.__call__" ⟨.ref C::us,kw⟩)).depth=A.depth+1:=by
 first|rfl|simp [Around.under,Code.weight,Code.isCreation,Code.isGuard,Code.isCaller,Code.frames,Code.isFrame,guardIds]
theorem Lx{A:Around}{C:Addr}{us:List Value}{kw:List (Str×Value)}:(A.under (.builtin "type.__call__" ⟨.ref C::us,kw⟩)).units=A.units+1:=by
 first|rfl|simp [Around.under,Code.cUnits,Code.frames,Code.isFrame]
theorem iW.make{k:Nat}{A:Around}(r:iW (k+1) A)(C:Addr)(us:List Value)(kw:List (Str×Value)):iW k (A.under (.builtin "type.__call__" ⟨.ref C::us,kw⟩)) :=
 ⟨r.hd,by have:=r.dp;rw [Lp];omega,by have:=r.un;rw [Lx];omega⟩
theorem iW.depth{k:Nat}{A:Around}(r:iW k A):A.depth<recursionLimit:=by have:=r.dp;omega
theorem iW.units{k:Nat}{A:Around}(r:iW k A):A.units+64<cLine:=by have:=r.un;omega
def Gb:TA:=fun _ H Q=>Q [] H
def HC(ta:TE)(tr:TA):TA:=fun σ H Q=>ta σ H fun x H1=>tr σ H1 fun xs H2=>Q (x::xs) H2
section
variable {X:Cx}{e:Expr}{es:List Expr}{te:TE}{t:TA}{pos:Pos}
theorem aF:PA X [] Gb:=fun _ _ _ _ H Q I h=>Calls.spliced_nil ⟨[],H,I,.nil,h⟩
theorem aA(ha:PE X e te)(hr:PA X es t)(hs:starEach (e::es) X.env=(false,eval e X.env)::starEach es X.env:=by rfl):PA X (e::es) (HC te t):=by
 intro pos pins s σ H Q I h
 rw [hs]
 show wpAny _ _ (spliced ((false,eval e X.env)::backTo pos (starEach es X.env))) _ _ s
 refine Calls.spliced_cons (eD (ha pins s σ H _ I h) fun u s1 ⟨x,H1,I1,r1,q1⟩=>?_)
 exact eD (hr pos pins s1 σ H1 _ I1 q1) fun us s2 ⟨xs,H2,I2,r2,q2⟩=>⟨x::xs,H2,I2,.cons r1 r2,q2⟩
def SF(t:TA):TE:=fun σ H Q=>t σ H fun xs H1=>xs.length<=sizeLine/\∀ p,H1 p=none->Q (.ref p) (a6 H1 p (.tup xs))
def Ta(t:TA):TE:=fun σ H Q=>t σ H fun xs H1=>xs.length<=sizeLine/\∀ p,H1 p=none->Q (.ref p) (a6 H1 p (.lst xs))
theorem pG{x1}(h:PA X es t):PE X (.Tuple es x1 pos) (SF t):=by
 intro pins s σ H Q I hq
 refine wpAny_Tuple_spliced (eD (h pos pins s σ H _ I hq) fun us s1 ⟨xs,H1,I1,r,z,q⟩=>⟨by rw [<-r.length];exact z,?_⟩)
 have hf:H1 s1.heap.objs.size=none:=I1.eE.fresh (Nat.le_refl _)
 refine ⟨.ref s1.heap.objs.size,a6 H1 s1.heap.objs.size (.tup xs),I1.laid (t':=s1.toks) (fun b u e=>Heap.get?_push_of_some _ e) (Nat.le_refl _) ?_,rfl,q _ hf⟩
 exact ⟨z,us,r,⟨_,Heap.get?_push_size _ rfl,rfl,_,rfl⟩⟩
theorem bR(h:PA X es t):PE X (.List es pos) (Ta t):=by
 intro pins s σ H Q I hq
 refine wpAny_List_spliced (eD (h pos pins s σ H _ I hq) fun us s1 ⟨xs,H1,I1,r,z,q⟩=>⟨by rw [<-r.length];exact z,?_⟩)
 have hf:H1 s1.heap.objs.size=none:=I1.eE.fresh (Nat.le_refl _)
 refine ⟨.ref s1.heap.objs.size,a6 H1 s1.heap.objs.size (.lst xs),I1.laid (t':=s1.toks) (fun b u e=>Heap.get?_push_of_some _ e) (Nat.le_refl _) ?_,rfl,q _ hf⟩
 exact ⟨z,us,0,r,Heap.get?_push_size _ rfl⟩
end
abbrev Sp:=List V->Hp->VK->XK->Prop
abbrev CXT:=List Env->Hp->Shared->XK->Value->Shared->Prop
structure L_(P:Program)(w:World)(K:Frag)(mg:Str->Option Value)(base:Heap)(A:Around)(outer:List Env)(s:Shared)(H:Hp):Prop where
 frames:A.frames=some outer
 mod:Mod K mg base
 bs:∀ b o,base.get? b=some o->s.heap.get? b=some o/\H b=none
 bsz:base.objs.size<=s.heap.objs.size
 xF:s.heap.FunFrames base outer
 frf:∀ b∈rS outer,H b=none
 eE:sS P w H s.heap
 bare:AllBare s.gens
def CE(outer:List Env)(P:Program)(w:World)(H:Hp)(s:Shared)(Q:VK)(u:Value)(s':Shared):Prop :=
 ∃ v H',s'.os=s.os/\AllBare s'.gens/\Un (rS outer) [] H H' s.heap s'.heap/\sS P w H' s'.heap/\cJ v u/\Q v H'
def CR(CX:CXT)(outer:List Env)(P:Program)(w:World)(H:Hp)(s:Shared)(Q:VK)(E:XK)(r:Result)(s':Shared):Prop :=
 match r with
 | .ok (.ret u)=>CE outer P w H s Q u s'
 | .ok _=>False
 | .error e=>CX outer H s E e s'
structure bL(P:Program)(w:World)(K:Frag)(mg:Str->Option Value)(base:Heap)(CX:CXT)(k:Nat)(f:Addr)(fd:FuncData)(ps:List Str)(sp:Sp):Prop where
 len:∀ vs H Q E,sp vs H Q E->vs.length=ps.length
 run:∀ (A:Around) (outer:List Env) (s:Shared) (H:Hp) (args:Args) (us:List Value) (vs:List V) (Q:VK) (E:XK),iW k A->L_ P w K mg base A outer s H->BindsTo s fd args (ps.zip us)->b9 vs us->sp vs H Q E →
  codeAny (model P w) A (.call (.ref f) args) (CR CX outer P w H s Q E) s
theorem L_.make{P:Program}{w:World}{K:Frag}{mg:Str->Option Value}{base:Heap}{A:Around}{outer:List Env}{s:Shared}{H:Hp}(e:L_ P w K mg base A outer s H)(C:Addr)(us:List Value)(kw:List (Str×Value)) :
 L_ P w K mg base (A.under (.builtin "type.__call__" ⟨.ref C::us,kw⟩)) outer s H:=⟨by first|exact e.frames|(simpa [Around.under,Code.envs,Code.isFrame,pushEnvs] using e.frames),e.mod,e.bs,e.bsz,e.xF,e.frf,e.eE,e.bare⟩
section
variable {X:Cx}{pins:List (Addr×Obj)}{σ:St}{H:Hp}{s s':Shared}
theorem bN.Sk(I:bN X pins σ H s):L_ X.prog X.w X.K X.mg X.base X.A X.stack s H :=
 ⟨I.ok.frames,I.ok.mod,I.bs,Nat.le_trans I.ok.bsz I.sz,I.stack,I.D8,I.eE,I.bare⟩
theorem bN.after{Q:VK}{u:Value}(I:bN X pins σ H s)(h:CE X.stack X.prog X.w H s Q u s'):EP X pins σ Q u s':=by
 obtain ⟨v,H',os,bare,un,eE,r,q⟩:=h
 obtain ⟨hh,g,d,t,os'⟩:=s'
 obtain rfl:os'=s.os:=os
 exact ⟨v,H',I.call (h':=hh) (g':=g) (d':=d) (t':=t) (ch:=[]) un eE bare (fun b z=>absurd z (by simp)),r,q⟩
end
def Hh(sp:Sp)(dvs:List V)(E:XK)(t:TA):TE:=fun σ H Q=>t σ H fun vs H1=>sp (vs++dvs) H1 Q E
inductive xM(C:Addr)(m:Str)(x:V)(H:Hp)(R:Prop):Prop
 | mk:∀ a dx fs,x=.ref a->H a=some (.ins C dx fs)->fs.lookup m=none->R->xM C m x H R
def QM(C:Addr)(m:Str)(sp:Sp)(dvs:List V)(E:XK)(ta:TE)(t:TA):TE:=fun σ H Q=>ta σ H fun x H1=>xM C m x H1 (t σ H1 fun vs H2=>sp (x::(vs++dvs)) H2 Q E)
def Pe(C:Addr)(sp:Sp)(dvs:List V)(E:XK)(t:TA):TE:=fun σ H Q=>t σ H fun vs H1=>∀ x dx,H1 x=none->H1 dx=none->dx≠x →
 sp (.ref x::(vs++dvs)) (a6 (a6 H1 dx (.own x)) x (.ins C dx [])) (fun v H2=>v=.eX/\Q (.ref x) H2) E
def pX(K:Frag)(fd:FuncData)(ps:List Str)(ds:List Value):Prop :=
 ∀ (s:Shared) (us:List Value),K.In s.heap->(us++ds).length=ps.length->BindsTo s fd ⟨us,[]⟩ (ps.zip (us++ds))
theorem pX.all{K:Frag}{fd:FuncData}{ps:List Str}(h:∀ us:List Value,us.length=ps.length->bindArgs fd ⟨us,[]⟩=pure (ps.zip us)):pX K fd ps []:=fun s us _ hl=>by
 rw [List.append_nil] at hl ⊢
 exact .of_eq (h us hl)
def lA(CX:CXT)(X:Cx)(E:XK):Prop:=∀ (pins:List (Addr×Obj)) (σ:St) (H:Hp) (s:Shared) (e:Value) (s':Shared),bN X pins σ H s->CX X.stack H s E e s'->X.xe e s'
section
variable {X:Cx}{CX:CXT}{k:Nat}{f C:Addr}{fd:FuncData}{ps:List Str}{sp:Sp}{dvs:List V}{ds:List Value}{E:XK}{x m:Str}{p pos apos:Pos}{e o:Expr}{es:List Expr}{ta:TE}{t:TA}
theorem Jo{pins:List (Addr×Obj)}{σ:St}{H:Hp}{s:Shared}{Q:VK}{us:List Value}{vs:List V}(F:bL X.prog X.w X.K X.mg X.base CX k f fd ps sp)(hr:iW k X.A)(hb:pX X.K fd ps ds)(hd:b9 dvs ds)(hx:lA CX X E)
 (I:bN X pins σ H s) (r:b9 vs us) (h:sp (vs++dvs) H Q E):wpAny (model X.prog X.w) X.A (call (.ref f) us) (EP X pins σ Q) X.xe s:=by
 have r2:b9 (vs++dvs) (us++ds):=r.append hd
 have hl:(us++ds).length=ps.length:=by rw [<-r2.length];exact F.len _ _ _ _ h
 refine wpAny_call (codeAny_mono (F.run X.A X.stack s H ⟨us,[]⟩ (us++ds) (vs++dvs) Q E hr I.Sk (hb s us I.kIn hl) r2 h) fun r s' hq=>?_)
 cases r with
 | error e=>exact hx pins σ H s e s' I hq
 | ok fl =>
  cases fl with
  | ret u=>exact I.after hq
  | next=>exact False.elim hq
  | brk=>exact False.elim hq
  | cont=>exact False.elim hq
theorem Ea(F:bL X.prog X.w X.K X.mg X.base CX k f fd ps sp)(hr:iW k X.A)(hg:Gl X x)(hm:X.mg x=some (.ref f))(hk:keepIn X.K (.ref f)=true)(hb:pX X.K fd ps ds)(hd:b9 dvs ds)(hx:lA CX X E)
 (ha:PA X (e::es) t) (hdb:(x==("__debug__":Str))=false:=by decide) (he:starEach (e::es) X.env=(false,eval e X.env)::starEach es X.env:=by rfl) (hpl:(backTo pos (starEach es X.env)).any (·.1)=false:=by rfl) :
 PE X (.Call (.Name x p) (e::es) [] pos) (Hh sp dvs E t):=by
 intro pins s σ H Q I h
 refine wpAny_Call_Name_kw (nQ I hg hm ?_ hdb)
 refine PySem.W.callWith_K (h₀:=X.base) I.ok.mod.kin hk (eD (ha pos pins s σ H _ I h) fun us s1 ⟨vs,H1,I1,r,q⟩=>⟨I1.kIn,?_⟩) he hpl
 exact Jo F hr hb hd hx I1 r q
theorem N7(F:bL X.prog X.w X.K X.mg X.base CX k f fd ps sp)(hr:iW k X.A)(hg:Gl X x)(hm:X.mg x=some (.ref f))(hk:keepIn X.K (.ref f)=true)(hb:pX X.K fd ps ds)(hd:b9 dvs ds)(hx:lA CX X E)
 (hdb:(x==("__debug__":Str))=false:=by decide):PE X (.Call (.Name x p) [] [] pos) (Hh sp dvs E Gb):=by
 intro pins s σ H Q I h
 refine wpAny_Call_Name_kw (nQ I hg hm ?_ hdb)
 exact PySem.W.callWith_K0 I.kIn hk (Jo (us:=[]) F hr hb hd hx I .nil h)
theorem cP{pl:Sem Bool}(he:PE X o ta)(c:Cls X.K C)(hm:PB X.K C m f)(F:bL X.prog X.w X.K X.mg X.base CX k f fd ps sp)(hr:iW k X.A)(hb:pX X.K fd ps ds)(hd:b9 dvs ds)(hx:lA CX X E)(ha:PA X (e::es) t)
 (hst:starEach (e::es) X.env=(false,eval e X.env)::starEach es X.env:=by rfl) (hpl:(backTo pos (starEach es X.env)).any (·.1)=false:=by rfl)
 (ht:eval (.Call (.Attribute o m apos) (e::es) [] pos) X.env=(do
  let ov <-eval o X.env
  standAt apos.atName
  let (f,first) <-holding [ov] (getMethod ov m pl)
  callWith pos f first (backTo pos (starEach (e::es) X.env)) (backToKw pos (keywordEach [] X.env))):=by rfl) :
 PE X (.Call (.Attribute o m apos) (e::es) [] pos) (QM C m sp dvs E ta t):=by
 intro pins s σ H Q I h
 refine PySem.W.methodCall_KW (pl:=pl) (eD (he pins s σ H _ I h) fun u s1 ⟨x,H1,I1,rx,a,dx,fs,ex,ea,l,q⟩=>?_) ht
 subst ex
 obtain rfl:u=Value.ref a:=rx
 refine FA I1 ea c hm l ?_
 refine PySem.W.callWith_K (first:=[.ref a]) (h₀:=X.base) I.ok.mod.kin hm.kp (eD (ha pos pins s1 σ H1 _ I1 q) fun us s2 ⟨vs,H2,I2,r,q2⟩=>⟨I2.kIn,?_⟩) hst hpl
 exact Jo (us:=.ref a::us) (vs:=.ref a::vs) F hr hb hd hx I2 (.cons rfl r) q2
theorem dN{pl:Sem Bool}(he:PE X o ta)(c:Cls X.K C)(hm:PB X.K C m f)(F:bL X.prog X.w X.K X.mg X.base CX k f fd ps sp)(hr:iW k X.A)(hb:pX X.K fd ps ds)(hd:b9 dvs ds)(hx:lA CX X E)
 (ht:eval (.Call (.Attribute o m apos) [] [] pos) X.env=(do
  let ov <-eval o X.env
  standAt apos.atName
  let (f,first) <-holding [ov] (getMethod ov m pl)
  callWith pos f first (backTo pos (starEach [] X.env)) (backToKw pos (keywordEach [] X.env))):=by rfl) :
 PE X (.Call (.Attribute o m apos) [] [] pos) (QM C m sp dvs E ta Gb):=by
 intro pins s σ H Q I h
 refine PySem.W.methodCall_KW (pl:=pl) (eD (he pins s σ H _ I h) fun u s1 ⟨x,H1,I1,rx,a,dx,fs,ex,ea,l,q⟩=>?_) ht
 subst ex
 obtain rfl:u=Value.ref a:=rx
 refine FA I1 ea c hm l ?_
 exact PySem.W.callWith_K0 (first:=[.ref a]) I1.kIn hm.kp (Jo (us:=[.ref a]) (vs:=[.ref a]) F hr hb hd hx I1 (.cons rfl .nil) q)
structure Mk(K:Frag)(C f:Addr):Prop where
 makes:PySem.W.makesIn K C=true
 init:findIn K (.ref C) "__init__"=some (some (.ref f))
 fn:isFn K (.ref f)=true
 kp:keepIn K (.ref C)=true
theorem J8{pins:List (Addr×Obj)}{σ:St}{H:Hp}{s:Shared}{Q:VK}{us:List Value}{vs:List V}(M:Mk X.K C f)(F:bL X.prog X.w X.K X.mg X.base CX k f fd ps sp)(hr:iW (k+1) X.A)(hb:pX X.K fd ps ds)(hd:b9 dvs ds)
 (hx:lA CX X E) (I:bN X pins σ H s) (r:b9 vs us)
 (h:∀ x dx,H x=none->H dx=none->dx≠x->sp (.ref x::(vs++dvs)) (a6 (a6 H dx (.own x)) x (.ins C dx [])) (fun v H2=>v=.eX/\Q (.ref x) H2) E) :
 wpAny (model X.prog X.w) X.A (call (.ref C) us) (EP X pins σ Q) X.xe s:=by
 have hq:=h (s.heap.objs.size+1) s.heap.objs.size (I.eE.fresh (Nat.le_succ _)) (I.eE.fresh (Nat.le_refl _)) (Nat.ne_of_lt (Nat.lt_succ_self _))
 have I2:=bN.made (C:=C) I
 have r2:b9 (V.ref (s.heap.objs.size+1)::(vs++dvs)) (Value.ref (s.heap.objs.size+1)::(us++ds)):=.cons rfl (r.append hd)
 have hl:(Value.ref (s.heap.objs.size+1)::us++ds).length=ps.length:=by
  have e:=r2.length
  rw [F.len _ _ _ _ hq] at e
  exact e.symm
 refine wpAny_call (N3 (f:=f) I.kIn M.makes M.init (beq_iff_eq.mp M.fn) (codeAny_mono (F.run _ X.stack _ _ ⟨Value.ref (s.heap.objs.size+1)::us,[]⟩ (Value.ref (s.heap.objs.size+1)::(us++ds)) _ _ E (hr.make C us [])
  (I2.Sk.make C us []) (hb _ (Value.ref (s.heap.objs.size+1)::us) I2.kIn hl) r2 hq) fun r s' hq'=>?_))
 cases r with
 | error e=>exact hx pins σ _ _ e s' I2 hq'
 | ok fl =>
  cases fl with
  | ret u =>
   obtain ⟨v,H',I3,rv,ev,q3⟩:=I2.after hq'
   subst ev
   exact ⟨rv,⟨V.ref (s.heap.objs.size+1),H',I3,rfl,q3⟩⟩
  | next=>exact False.elim hq'
  | brk=>exact False.elim hq'
  | cont=>exact False.elim hq'
theorem Py(M:Mk X.K C f)(F:bL X.prog X.w X.K X.mg X.base CX k f fd ps sp)(hr:iW (k+1) X.A)(hg:Gl X x)(hm:X.mg x=some (.ref C))(hb:pX X.K fd ps ds)(hd:b9 dvs ds)(hx:lA CX X E)
 (ha:PA X (e::es) t) (hdb:(x==("__debug__":Str))=false:=by decide) (he:starEach (e::es) X.env=(false,eval e X.env)::starEach es X.env:=by rfl) (hpl:(backTo pos (starEach es X.env)).any (·.1)=false:=by rfl) :
 PE X (.Call (.Name x p) (e::es) [] pos) (Pe C sp dvs E t):=by
 intro pins s σ H Q I h
 refine wpAny_Call_Name_kw (nQ I hg hm ?_ hdb)
 refine PySem.W.callWith_K (h₀:=X.base) I.ok.mod.kin M.kp (eD (ha pos pins s σ H _ I h) fun us s1 ⟨vs,H1,I1,r,q⟩=>⟨I1.kIn,?_⟩) he hpl
 exact J8 M F hr hb hd hx I1 r q
theorem BE(M:Mk X.K C f)(F:bL X.prog X.w X.K X.mg X.base CX k f fd ps sp)(hr:iW (k+1) X.A)(hg:Gl X x)(hm:X.mg x=some (.ref C))(hb:pX X.K fd ps ds)(hd:b9 dvs ds)(hx:lA CX X E)
 (hdb:(x==("__debug__":Str))=false:=by decide):PE X (.Call (.Name x p) [] [] pos) (Pe C sp dvs E Gb):=by
 intro pins s σ H Q I h
 refine wpAny_Call_Name_kw (nQ I hg hm ?_ hdb)
 exact PySem.W.callWith_K0 I.kIn M.kp (J8 (us:=[]) M F hr hb hd hx I .nil h)
end
structure aN(N P:List Str)(sc:Scope):Prop where
 kind:sc.kind=.function
 co:sc.isCoroutine=false
 gen:sc.isGenerator=false
 nd:N.Nodup
 pre:N.take P.length=P
 par:∀ x∈P,sc.names.lookup x=some .local\/sc.names.lookup x=some .cell
 RA:∀ y∈sc.names,y.2≠.free
theorem HI{kindOf:Str->Option NameKind}{x:Str}:∀ {binds:List (Str×Value)} {m:Str->Option Value},(∀ v,(x,v)∉binds)->bindL kindOf binds m x=m x
 | [],_,_=>rfl
 | (n,v)::r,m,h=>by
  unfold bindL
  rw [HI fun w hw=>h w (mem_cons_of_mem _ hw)]
  split
  ·have:x≠n:=by rintro rfl;exact h v List.mem_cons_self
   simp [this]
  ·rfl
theorem HJ{kindOf:Str->Option NameKind}{x:Str}:∀ {binds:List (Str×Value)} {m:Str->Option Value},(∀ v,(x,v)∉binds)->bindC kindOf binds m x=m x
 | [],_,_=>rfl
 | (n,v)::r,m,h=>by
  unfold bindC
  rw [HJ fun w hw=>h w (mem_cons_of_mem _ hw)]
  split
  ·rfl
  ·have:x≠n:=by rintro rfl;exact h v List.mem_cons_self
   simp [this]
theorem HE{kindOf:Str->Option NameKind}{x:Str}{v:Value}:∀ {P:List Str} {vs:List Value} {i:Nat} {m:Str->Option Value},P.Nodup->P[i]?=some x->vs[i]?=some v->kindOf x=some .local →
 bindL kindOf (P.zip vs) m x=some v
 | [],_,_,_,_,h,_,_=>by simp at h
 | _::_,[],_,_,_,_,h,_=>by simp at h
 | p::P,w::vs,0,m,nd,h1,h2,hk=>by
  simp at h1 h2;subst h1;subst h2
  show bindL kindOf ((p,w)::P.zip vs) m p=_
  unfold bindL
  rw [HI fun v hv=>(List.nodup_cons.mp nd).1 (List.of_mem_zip hv).1,if_pos hk]
  simp
 | p::P,w::vs,i+1,m,nd,h1,h2,hk=>by
  show bindL kindOf ((p,w)::P.zip vs) m x=_
  unfold bindL
  exact HE (i:=i) (List.nodup_cons.mp nd).2 (by simpa using h1) (by simpa using h2) hk
theorem Hr{kindOf:Str->Option NameKind}{x:Str}{v:Value}:∀ {P:List Str} {vs:List Value} {i:Nat} {m:Str->Option Value},P.Nodup->P[i]?=some x->vs[i]?=some v->kindOf x≠some .local →
 bindC kindOf (P.zip vs) m x=some v
 | [],_,_,_,_,h,_,_=>by simp at h
 | _::_,[],_,_,_,_,h,_=>by simp at h
 | p::P,w::vs,0,m,nd,h1,h2,hk=>by
  simp at h1 h2;subst h1;subst h2
  show bindC kindOf ((p,w)::P.zip vs) m p=_
  unfold bindC
  rw [HJ fun v hv=>(List.nodup_cons.mp nd).1 (List.of_mem_zip hv).1,if_neg hk]
  simp
 | p::P,w::vs,i+1,m,nd,h1,h2,hk=>by
  show bindC kindOf ((p,w)::P.zip vs) m x=_
  unfold bindC
  exact Hr (i:=i) (List.nodup_cons.mp nd).2 (by simpa using h1) (by simpa using h2) hk
def start(N:List Str)(vs:List V):St:=vs.map some++List.replicate (N.length - vs.length) none
def uH(CX:CXT)(P:Program)(w:World)(K:Frag)(mg:Str->Option Value)(base:Heap)(N:List Str)(qual:Str)(scope:Scope)(f:Addr)(cd:Value)(A:Around)(outer:List Env)(s:Shared)(H:Hp)(E:XK):Cx where
 prog:=P
 w:=w
 K:=K
 mg:=mg
 base:=base
 A:=A.deeper (envOfC qual scope s.heap.objs.size f cd)
 N:=N
 DO:=s
 H_0:=H
 env:=envOfC qual scope s.heap.objs.size f cd
 outer:=outer
 stack:=envOfC qual scope s.heap.objs.size f cd::outer
 ex:=[]
 calm:=true
 fn:=fun _=>true
 pn:=[]
 xe:=fun e s'=>wpAny (model P w) (A.deeper (envOfC qual scope s.heap.objs.size f cd)) (leaving (envOfC qual scope s.heap.objs.size f cd) e) (fun _ s''=>CX outer H s E e s'') (fun e' s''=>CX outer H s E e' s'') s'
theorem JZ{sc:Scope}{n:Nat}{x:Str}(h:sc.names.lookup x=some .cell):∃ c,(cellsFrom n sc.names []).lookup x=some c:=by
 have q:=PySem.W.cellsFrom_some sc.names n [] (.inl h)
 exact Option.isSome_iff_exists.mp q
theorem NW{CX:CXT}{P:Program}{w:World}{K:Frag}{mg:Str->Option Value}{base:Heap}{N ps:List Str}{qual:Str}{scope:Scope}{f:Addr}{cd:Value}{A:Around}{outer:List Env}{s s1:Shared}{H:Hp}{E:XK}{us:List Value}{vs:List V}
 (S:aN N ps scope) (hd:A.handled=none) (e0:L_ P w K mg base A outer s H) (hl:vs.length=ps.length) (r:b9 vs us)
 (x:InCallC s s.heap.objs.size (bindL (envOfC qual scope s.heap.objs.size f cd).kindOf (ps.zip us) fun _=>none) (cellsFrom (s.heap.objs.size+1) scope.names []) (bindC (envOfC qual scope s.heap.objs.size f cd).kindOf (ps.zip us) fun _=>none) s1) :
 bN (uH CX P w K mg base N qual scope f cd A outer s H E) [] (start N vs) H s1:=by
 have hpl:ps.length<=N.length:=by have:=congrArg List.length S.pre;rw [length_take] at this;omega
 obtain ⟨h1,tk,rfl,hk⟩:=x.done
 have noA:∀ b:Addr,b∉(uH CX P w K mg base N qual scope f cd A outer s H E).ex:=fun b z=>absurd (show b∈([]:List Addr) from z) (by simp)
 refine ⟨⟨e0.mod,S.kind,rfl,rfl,Nat.le_refl _,fun y z c h1 h2=>?_,fun y hy=>?_,fun y c _ h=>?_,fun _=>hd,Around.frames_deeper e0.frames,.inr ⟨rfl,rfl⟩,fun b z=>absurd z (noA b),e0.bs,e0.bsz,fun b _ _=>noA b,fun b z=>absurd z (noA b),e0.xF,e0.frf⟩,
  rfl,e0.bare,Un.kept hk,⟨_,x.toInCall.ns,fun i y v h1 h2 h3=>?_⟩,fun y c h=>⟨_,x.cell y c h⟩,e0.eE.fresh (Nat.le_refl _),fun y c h=>?_,fun p hp=>absurd (show p∈([]:List (Addr×Obj)) from hp) (by simp),e0.eE.kept hk,?_⟩
 ·exact name_of_addr x.apart (PySem.mem_of_lookup h1) (PySem.mem_of_lookup h2)
 ·have hy:scope.names.lookup y=some .cell\/scope.names.lookup y=some .free:=hy
  rcases hy with hy|hy
  ·exact JZ hy
  ·exact absurd rfl (S.RA _ (PySem.mem_of_lookup hy))
 ·exact Nat.le_of_lt (x.above y c (PySem.mem_of_lookup h))
 ·have hi:i<vs.length:=by
   unfold start at h2
   by_cases hi:i<vs.length
   ·exact hi
   ·rw [getElem?_append_right (by simpa using hi)] at h2
    rw [List.getElem?_replicate] at h2
    split at h2<;>cases h2
  have ha:vs[i]?=some v:=by
   unfold start at h2
   rw [getElem?_append_left (by simpa using hi),getElem?_map] at h2
   cases e:vs[i]? with
   | none=>rw [e] at h2;cases h2
   | some a=>rw [e] at h2;cases h2;rfl
  obtain ⟨u,hu,rv⟩:=r.get ha
  have hp:ps[i]?=some y:=by
   rw [<-S.pre,List.getElem?_take_of_lt (by omega)];exact h1
  have ndP:ps.Nodup:=by rw [<-S.pre];exact S.nd.sublist (List.take_sublist _ _)
  refine ⟨u,rv,?_⟩
  rcases S.par y (List.mem_of_getElem? hp) with k|k
  ·exact .inl ⟨k,HE ndP hp hu k⟩
  ·obtain ⟨c,e⟩:=JZ (n:=s.heap.objs.size+1) k
   refine .inr ⟨.inl k,c,e,?_⟩
   have q:=x.cell y c e
   rw [Hr ndP hp hu (by show scope.names.lookup y≠_;rw [k];decide)] at q
   exact q
 ·exact e0.eE.fresh (Nat.le_of_lt (x.above y c (PySem.mem_of_lookup h)))
 ·unfold start
  show _=N.length
  rw [length_append,length_map,List.length_replicate]
  omega
theorem QD{CX:CXT}{P:Program}{w:World}{K:Frag}{mg:Str->Option Value}{base:Heap}{k:Nat}{f:Addr}{name qual:Str}{params:Arguments}{body:List Stmt}{scope:Scope}{dV kV doc pm cdv ct oc:Value}{an od:Option Addr}
 {osl:Array (Option Value)} {N ps:List Str} {sp:Sp} (lk:K.lookup f=some ⟨oc,od,.func (fnOf name qual params body scope dV kV doc pm an cdv ct),osl⟩) (hcd:codeIn K cdv qual=true) (S:aN N ps scope)
 (len:∀ vs H Q E,sp vs H Q E->vs.length=ps.length)
 (hbody:∀ (A:Around) (outer:List Env) (s:Shared) (H:Hp) (vs:List V) (Q:VK) (E:XK),iW k (A.deeper (envOfC qual scope s.heap.objs.size f cdv))->sp vs H Q E →
  ∃ t,PSs (uH CX P w K mg base N qual scope f cdv A outer s H E) body t/\t { nx:=fun _ H'=>Q .eX H',rt:=Q } (start N vs) H) :
 bL P w K mg base CX (k+1) f (fnOf name qual params body scope dV kV doc pm an cdv ct) ps sp:=by
 refine ⟨len,fun A outer s H args us vs Q E hr e0 hb r hsp=>?_⟩
 have hl:=len _ _ _ _ hsp
 have KX:K.In s.heap:=e0.mod.kin.keeps fun b o e=>(e0.bs b o e).1
 have lim:s.heap.NoLimit:=e0.mod.nolimit.keeps fun b o e=>(e0.bs b o e).1
 have hkind:∀ y∈ps.zip us,scope.names.lookup y.1=some .local\/(scope.names.lookup y.1=some .cell/\((cellsFrom (s.heap.objs.size+1) scope.names []).lookup y.1).isSome=true):=fun ⟨n,v⟩ hy=>by
  rcases S.par n (List.of_mem_zip hy).1 with q|q
  ·exact .inl q
  ·exact .inr ⟨q,PySem.W.cellsFrom_some _ _ _ (.inl q)⟩
 refine codeAny_call_function hr.depth (KX _ _ lk) rfl S.co S.gen rfl (PySem.W.codeRec_of KX hcd) (hb _ _ _ _ ?_)
 refine wpAny_newFunctionEnv_cells S.kind hkind fun env he s1 x=>?_
 subst he
 refine ⟨lim.keeps x.toInCall.keep,codeAny_func ?_⟩
 obtain ⟨t,ht,hq⟩:=hbody A outer s H vs Q E (hr.deeper _) hsp
 have I:bN (uH CX P w K mg base N qual scope f cdv A outer s H E) [] (start N vs) H s1:=NW S hr.hd e0 hl r x
 refine wpAny_mono (ht [] s1 (start N vs) H _ I hq) (fun fl s' hs=>?_) fun e s' hs=>hs
 have fin:∀ {σ':St} {H':Hp} {v:V} {u:Value},bN (uH CX P w K mg base N qual scope f cdv A outer s H E) [] σ' H' s'->cJ v u->Q v H'->CE outer P w H s Q u s' :=
  fun {σ' H' v u} J rv q=>⟨v,H',J.os,J.bare,J.base,J.eE,rv,q⟩
 cases fl with
 | ret u =>
  obtain ⟨v,σ',H',J,rv,q⟩:=hs
  exact fin J rv q
 | next =>
  obtain ⟨σ',H',J,q⟩:=hs
  exact fin (v:=V.eX) (u:=Value.none) J rfl q
 | brk =>
  obtain ⟨_,_,_,q⟩:=hs
  exact False.elim q
 | cont =>
  obtain ⟨_,_,_,q⟩:=hs
  exact False.elim q
section
variable {X:Cx}{x:Str}{p pos:Pos}{e:Expr}{es:List Expr}{t:TA}{id T:String}{r:List V->Hp->VK->Prop}
def tCB(r:List V->Hp->VK->Prop)(t:TA):TE:=fun σ H Q=>t σ H fun vs H1=>r vs H1 Q
theorem jI(hc:AL X (.builtin id) r)(hg:Gl X x)(hm:X.mg x=none)(hv:bootBuiltins x=some (.builtin id))(ha:PA X (e::es) t)(hn:x≠"__name__":=by decide)(hdb:(x==("__debug__":Str))=false:=by decide)
 (he:starEach (e::es) X.env=(false,eval e X.env)::starEach es X.env:=by rfl) (hpl:(backTo pos (starEach es X.env)).any (·.1)=false:=by rfl):PE X (.Call (.Name x p) (e::es) [] pos) (tCB r t):=by
 intro pins s σ H Q I h
 refine wpAny_Call_Name_kw (LB I hg hm hv ?_ hn hdb)
 exact PyProof.Rows.callWith_builtin1 (eD (ha pos pins s σ H _ I h) fun us s1 ⟨vs,H1,I1,r1,q1⟩=>hc pins s1 σ H1 vs us Q I1 r1 q1) he hpl
theorem NT(hc:AL X (.type T) r)(hg:Gl X x)(hm:X.mg x=none)(hv:bootBuiltins x=some (.type T))(ha:PA X (e::es) t)(hn:x≠"__name__":=by decide)(hdb:(x==("__debug__":Str))=false:=by decide)
 (he:starEach (e::es) X.env=(false,eval e X.env)::starEach es X.env:=by rfl) (hpl:(backTo pos (starEach es X.env)).any (·.1)=false:=by rfl):PE X (.Call (.Name x p) (e::es) [] pos) (tCB r t):=by
 intro pins s σ H Q I h
 refine wpAny_Call_Name_kw (LB I hg hm hv ?_ hn hdb)
 exact PyProof.Rows.callWith_type1 (eD (ha pos pins s σ H _ I h) fun us s1 ⟨vs,H1,I1,r1,q1⟩=>hc pins s1 σ H1 vs us Q I1 r1 q1) he hpl
end
end L2
namespace HT
open PySem PyProof.Rows
section
open PySem.SeqAt
open PySem.AutoSeq1 (wpAny_loadPart')
open PySem.MeetsSeq PySem.MeetsSeq2 PySem.MeetsSeq3
end
section
variable {prog:Program}{w:World}{A:Around}{E:Value->Shared->Prop}{s:Shared}
def sIx(n d:Nat):Option Int->Nat
 | none=>d
 | some v=>if v<0 then (v+(n:Int)).toNat else min v.toNat n
theorem By(n d:Nat):sIx n d none=d:=rfl
theorem pZ(n d k:Nat):sIx n d (some (k:Int))=min k n:=by
 show (if (k:Int)<0 then ((k:Int)+(n:Int)).toNat else min (k:Int).toNat n)=min k n
 rw [if_neg (by omega),Int.toNat_natCast]
end
end HT
namespace L2
open PySem PySem.Spec PyProof.Rows
abbrev TO:=St->Hp->(Option Int->Hp->Prop)->Prop
def PO(X:Cx)(e:Option Expr)(t:TO):Prop :=
 ∀ (pins:List (Addr×Obj)) (s:Shared) (σ:St) (H:Hp) (Q:Option Int->Hp->Prop),bN X pins σ H s->t σ H Q →
  wpAny (model X.prog X.w) X.A (evalPart e X.env) (fun u s'=>∃ o H',bN X pins σ H' s'/\IsPart u o/\Q o H') X.xe s
def P0:TO:=fun _ H Q=>Q none H
def RV(t:TE):TO:=fun σ H Q=>t σ H fun x H1=>∃ i,x=.int i/\Q (some i) H1
section
variable {X:Cx}{e:Expr}{te:TE}{lo hi:Option Expr}{tl th:TO}{pos p2:Pos}
theorem lS:PO X none P0:=by
 intro pins s σ H Q I h
 rw [evalPart_none]
 exact wpAny_pure ⟨none,H,I,.none,h⟩
theorem dM(h:PE X e te):PO X (some e) (RV te):=by
 intro pins s σ H Q I hw
 rw [evalPart_some]
 refine eD (h pins s σ H _ I hw) fun u s1 ⟨x,H1,I1,r1,q1⟩=>?_
 obtain ⟨i,rfl,q⟩:=q1
 obtain ⟨t,rfl⟩:=r1
 exact ⟨some i,H1,I1,.int i t,q⟩
def SlR(X:Cx)(r:V->Option Int->Option Int->Hp->VK->Prop):Prop :=
 ∀ (pins:List (Addr×Obj)) (s:Shared) (σ:St) (H:Hp) (x:V) (v vl vu:Value) (lo hi:Option Int) (sl:Addr) (Q:VK),bN X pins σ H s->cJ x v->s.heap.IsSliceOf sl vl vu .none->IsPart vl lo->IsPart vu hi->r x lo hi H Q →
  ∃ T id,typeLookup (.type T) "__getitem__"=pure (some (.builtin id))/\s.TypeIs v T/\wpAny (model X.prog X.w) X.A (getItem v (.ref sl)) (EP X pins σ Q) X.xe s
def tSl(r:V->Option Int->Option Int->Hp->VK->Prop)(te:TE)(tl th:TO):TE:=fun σ H Q=>te σ H fun x H1=>tl σ H1 fun l H2=>th σ H2 fun u H3=>r x l u H3 Q
theorem eF{r:V->Option Int->Option Int->Hp->VK->Prop}(hr:SlR X r)(he:PE X e te)(hl:PO X lo tl)(hu:PO X hi th):PE X (.Subscript e (.Slice lo hi none p2) pos) (tSl r te tl th):=by
 intro pins s σ H Q I h
 refine Subscript_ (eD (he pins s σ H _ I h) fun v s1 ⟨x,H1,I1,r1,q1⟩=>?_)
 refine wpAny_Slice (eD (hl pins s1 σ H1 _ I1 q1) fun vl s2 ⟨l,H2,I2,pl,q2⟩=>eD (hu pins s2 σ H2 _ I2 q2) fun vu s3 ⟨u,H3,I3,pu,q3⟩=>?_)
 rw [evalPart_none]
 refine wpAny_pure ?_
 have I4:bN X pins σ H3 { s3 with heap:=s3.heap.push { cls:=.type "slice",data:=.fields #[vl,vu,.none] } }:=I3.kept (t':=s3.toks) fun b ob q=>Heap.get?_push_of_some _ q
 obtain ⟨T,id,hT,ht,hg⟩:=hr pins { s3 with heap:=s3.heap.push { cls:=.type "slice",data:=.fields #[vl,vu,.none] } } σ H3 x v vl vu l u s3.heap.objs.size Q I4 r1 (Heap.IsSliceOf.new ..) pl pu q3
 show wpAny (model X.prog X.w) X.A (subscriptTail e (.Slice lo hi none p2) v (.ref s3.heap.objs.size)) (EP X pins σ Q) X.xe { s3 with heap:=s3.heap.push { cls:=.type "slice",data:=.fields #[vl,vu,.none] } }
 exact tail_any (ops:=[.ref s3.heap.objs.size,v]) ht hT hg (by with_unfolding_all rfl)
def jB(xs:List V)(lo hi:Option Int):List V:=(xs.drop (HT.sIx xs.length 0 lo)).take (HT.sIx xs.length xs.length hi - HT.sIx xs.length 0 lo)
theorem vP(xs:List V)(lo hi:Option Int):(jB xs lo hi).length<=xs.length:=by
 unfold jB
 rw [length_take,length_drop]
 omega
end
def ixN(n:Nat)(i:Int):Option Nat:=if 0<=i then (if i<n then some i.toNat else none) else if -(n:Int)<=i then some (i+n).toNat else none
def atI{α:Type}(xs:List α)(i:Int):Option α:=(ixN xs.length i).bind fun j=>xs[j]?
theorem MH{n:Nat}{i:Int}{j:Nat}(h:ixN n i=some j):seqIndex? i n=some j/\j<n/\-(n:Int)<=i/\i<n:=by
 unfold ixN at h
 by_cases h0:0<=i
 ·rw [if_pos h0] at h
  by_cases h1:i<n
  ·rw [if_pos h1] at h
   have e:i.toNat=j:=Option.some.inj h
   exact ⟨by rw [seqIndex_of h0 h1,e],by omega,by omega,h1⟩
  ·rw [if_neg h1] at h;cases h
 ·rw [if_neg h0] at h
  by_cases h1:-(n:Int)<=i
  ·rw [if_pos h1] at h
   have e:(i+n).toNat=j:=Option.some.inj h
   exact ⟨by rw [seqIndex_neg (by omega) h1,e],by omega,h1,by omega⟩
  ·rw [if_neg h1] at h;cases h
theorem Mj{α:Type}{xs:List α}{i:Int}{v:α}(h:atI xs i=some v):∃ j,seqIndex? i xs.length=some j/\xs[j]?=some v/\j<xs.length/\-(xs.length:Int)<=i/\i<xs.length:=by
 unfold atI at h
 cases e:ixN xs.length i with
 | none=>rw [e] at h;cases h
 | some j =>
  rw [e] at h
  obtain ⟨h1,h2,h3,h4⟩:=MH e
  exact ⟨j,h1,h,h2,h3,h4⟩
theorem b6{α:Type}{xs:List α}{j:Nat}{v:α}(h:xs[j]?=some v):atI xs (j:Int)=some v:=by
 have hj:j<xs.length:=(List.getElem?_eq_some_iff.mp h).1
 have e:ixN xs.length (j:Int)=some j:=by
  unfold ixN
  rw [if_pos (by omega),if_pos (by omega)];simp
 unfold atI;rw [e];exact h
theorem O6{α:Type}(xs:List α)(v:α):atI (xs++[v]) (-1)=some v:=by
 have hl:(xs++[v]).length=xs.length+1:=by simp
 have e:ixN (xs++[v]).length (-1)=some xs.length:=by
  unfold ixN
  rw [hl,if_neg (by decide),if_pos (by omega)]
  congr 1
  omega
 unfold atI
 rw [e]
 show (xs++[v])[xs.length]?=some v
 simp
def IT(b:Expr):Prop:=∀ o i,subscripted b false o i=operate [o,i] (getItem o i)
def IxR(X:Cx)(r:R2):Prop :=
 ∀ (value slice:Expr) (pins:List (Addr×Obj)) (s:Shared) (σ:St) (H:Hp) (x y:V) (v u:Value) (Q:VK),bN X pins σ H s->cJ x v->cJ y u->r x y H Q →
  subscripted slice false v u=operate [v,u] (getItem v u)->wpAny (model X.prog X.w) X.A (subscriptTail value slice v u) (EP X pins σ Q) X.xe s
def MtR(X:Cx)(id:String)(r:V->List V->Hp->VK->Prop):Prop :=
 ∀ (pins:List (Addr×Obj)) (s:Shared) (σ:St) (H:Hp) (x:V) (xs:List V) (v:Value) (us:List Value) (Q:VK),bN X pins σ H s->cJ x v->b9 xs us->r x xs H Q →
  wpAny (model X.prog X.w) X.A (call (.builtin id) (v::us)) (EP X pins σ Q) X.xe s
section
variable {X:Cx}{a b:Expr}{ta tb:TE}{pos:Pos}
theorem KN{r:R2}(hr:IxR X r)(ha:PE X a ta)(hb:PE X b tb)(hs:IT b):PE X (.Subscript a b pos) (tOp r ta tb):=by
 intro pins s σ H Q I h
 exact Subscript_ (QV ha hb I h fun v u s2 x y H2 I2 rx ry q=>hr a b pins s2 σ H2 x y v u Q I2 rx ry q (hs _ _))
inductive Ls(K:Frag)(x:V)(y:V)(H:Hp)(Q:VK):Prop
 | mk:∀ p xs i v,x=.ref p->y=.int i->cT K H p xs->atI xs i=some v->Q v H->Ls K x y H Q
inductive Rx(K:Frag)(x:V)(y:V)(H:Hp)(Q:VK):Prop
 | mk:∀ p xs i v,x=.ref p->y=.int i->SqT K H p xs->atI xs i=some v->Q v H->Rx K x y H Q
theorem MA:IxR X (Ls X.K):=by
 intro value slice pins s σ H x y v u Q I rx ry h hs
 obtain ⟨p,xs,i,z,rfl,rfl,hq,he,q⟩:=h
 cases rx
 obtain ⟨t,rfl⟩:=ry
 obtain ⟨its,r,pl,hz⟩:=I.list hq
 obtain ⟨j,h1,h2,h3,h4,h5⟩:=Mj he
 obtain ⟨w,ew,rw'⟩:=r.get h2
 have hl:=r.length
 have hn:=IB
 have fin:EP X pins σ Q w s:=⟨z,H,I,rw',q⟩
 by_cases h0:0<=i
 ·have hj:i.toNat=j:=by
   rw [seqIndex_of h0 h5] at h1
   exact Option.some.inj h1
  exact item_listR pl.isList h0 (by omega) (by rw [hj];simpa using ew) fin hs
 ·have hj:(i+(its.toArray.size:Int)).toNat=j:=by
   rw [seqIndex_neg (by omega) h4] at h1
   rw [size_toArray,<-hl]
   exact Option.some.inj h1
  exact subscriptTail_builtinR (x:=w) pl.isList.typeIs slot_list_getitem.lookup
   (wpAny_getItem_list_neg (Q:=fun r s'=>r=w/\EP X pins σ Q r s') pl.isList (by omega) (by rw [size_toArray]<;>omega) (by omega) (by rw [hj];simpa using ew) ⟨rfl,fin⟩) hs
theorem Lw:IxR X (Rx X.K):=by
 intro value slice pins s σ H x y v u Q I rx ry h hs
 obtain ⟨p,xs,i,z,rfl,rfl,hq,he,q⟩:=h
 cases rx
 obtain ⟨t,rfl⟩:=ry
 obtain ⟨its,r,pl,hz⟩:=I.tuple hq
 obtain ⟨j,h1,h2,h3,h4,h5⟩:=Mj he
 obtain ⟨w,ew,rw'⟩:=r.get h2
 have hl:=r.length
 have hn:=IB
 have fin:EP X pins σ Q w s:=⟨z,H,I,rw',q⟩
 exact subscriptTail_builtinR (x:=w) pl.typeIs slot_tuple_getitem.lookup
  (getItem_tuple (j:=j) (Q:=fun r s'=>r=w/\EP X pins σ Q r s') pl (by omega) (by omega) (by rw [size_toArray,<-hl];exact h1) (by simpa using ew) ⟨rfl,fin⟩) hs
theorem LJ(its:List Value)(n j:Nat)(u:Value):Obj.mapSeq (·.setIfInBounds j u) { cls:=.type "list",data:=.seq its.toArray n }={ cls:=.type "list",data:=.seq (its.set j u).toArray n }:=by
 simp [Obj.mapSeq]
theorem bN.lst{pins:List (Addr×Obj)}{σ:St}{H:Hp}{s:Shared}{p:Addr}{xs:List V}(I:bN X pins σ H s)(h:H p=some (.lst xs)) :
 ∃ (its:List Value) (n:Nat),b9 xs its/\s.heap.get? p=some { cls:=.type "list",data:=.seq its.toArray n }/\xs.length<=sizeLine:=by
 obtain ⟨z,its,n,r,e⟩:=I.eE p _ h
 exact ⟨its,n,r,e,z⟩
theorem bN.Rz{pins:List (Addr×Obj)}{σ:St}{H:Hp}{s:Shared}{p:Addr}{xs ys:List V}{its its':List Value}{n n':Nat}{f:Obj->Obj}(I:bN X pins σ H s)(h:H p=some (.lst xs))
 (ho:s.heap.get? p=some { cls:=.type "list",data:=.seq its.toArray n }) (hf:f { cls:=.type "list",data:=.seq its.toArray n }={ cls:=.type "list",data:=.seq its'.toArray n' }) (r:b9 ys its') (hz:ys.length<=sizeLine) (t:Nat) :
 bN X pins σ (a6 H p (.lst ys)) { s with heap:=s.heap.update p f,toks:=t }:=by
 have e:(s.heap.update p f).get? p=some { cls:=.type "list",data:=.seq its'.toArray n' }:=by
  rw [Heap.get?_update_self f ho (by rw [hf]<;>rfl),hf]
 refine I.write (x:=p) (e:=p) (by rw [h];trivial) (.inl rfl) (fun b u hb q=>(Heap.get?_update_other _ _ (Ne.symm hb)).trans q) ⟨_,e⟩ ?_
 exact ⟨hz,its',n',r,e⟩
inductive QK(o:V)(i:V)(v:V)(H:Hp)(Q:Hp->Prop):Prop
 | mk:∀ p xs k j,o=.ref p->i=.int k->H p=some (.lst xs)->ixN xs.length k=some j->Q (a6 H p (.lst (xs.set j v)))->QK o i v H Q
theorem ED:Sd X QK:=by
 intro pins s σ H o i v ov iv u Q I ro ri rv h
 obtain ⟨p,xs,k,j,rfl,rfl,hp,hj,q⟩:=h
 cases ro
 obtain ⟨t,rfl⟩:=ri
 obtain ⟨its,n,r,ho,hz⟩:=I.lst hp
 obtain ⟨h1,h2,h3,h4⟩:=MH hj
 have hl:=r.length
 have hn:=IB
 have I':bN X pins σ (a6 H p (.lst (xs.set j v))) { s with heap:=s.heap.update p (Obj.mapSeq (·.setIfInBounds j u)) } :=
  I.Rz hp ho (LJ its n j u) (r.set rv j) (by rw [List.length_set];exact hz) s.toks
 by_cases h0:0<=k
 ·have hk:k.toNat=j:=by
   rw [seqIndex_of h0 h4] at h1
   exact Option.some.inj h1
  exact PySem.W.ki_setAt ho h0 (by omega) (by rw [size_toArray,<-hl];exact h4) (by rw [hk];exact ⟨_,I',q⟩)
 ·have hk:(k+(its.toArray.size:Int)).toNat=j:=by
   rw [seqIndex_neg (by omega) h3] at h1
   rw [size_toArray,<-hl]
   exact Option.some.inj h1
  exact PySem.W.ki_setBack ho (by omega) (by rw [size_toArray,<-hl];exact h3) (by omega) (by rw [hk];exact ⟨_,I',q⟩)
theorem Iv(lo hi:Option Int)(n:Nat):(sliceBounds lo hi none n).1=((HT.sIx n 0 lo:Nat):Int)/\(sliceBounds lo hi none n).2.1=((HT.sIx n n hi:Nat):Int)/\(sliceBounds lo hi none n).2.2=1:=by
 refine ⟨?_,?_,rfl⟩
 ·cases lo with
  | none=>simp [sliceBounds,HT.sIx]
  | some i =>
   simp only [sliceBounds,HT.sIx,Option.getD_none,show (1:Int) > 0 by decide,if_true]
   by_cases h:i<0
   ·simp only [h,if_true]<;>omega
   ·simp only [h,if_false]<;>omega
 ·cases hi with
  | none=>simp [sliceBounds,HT.sIx]
  | some i =>
   simp only [sliceBounds,HT.sIx,Option.getD_none,show (1:Int) > 0 by decide,if_true]
   by_cases h:i<0
   ·simp only [h,if_true]<;>omega
   ·simp only [h,if_false]<;>omega
theorem GF(its:List Value)(lo hi:Option Int):slicePick its.toArray lo hi none=((its.drop (HT.sIx its.length 0 lo)).take (HT.sIx its.length its.length hi - HT.sIx its.length 0 lo)).toArray:=by
 obtain ⟨h1,h2,h3⟩:=Iv lo hi its.toArray.size
 unfold slicePick
 rw [h1,h2,h3]
 simp only [sliceRange_one,pick_run,size_toArray]<;>rfl
inductive Se(K:Frag)(x:V)(lo:Option Int)(hi:Option Int)(H:Hp)(Q:VK):Prop
 | mk:∀ a xs,x=.ref a->cT K H a xs->(∀ p,H p=none->Q (.ref p) (a6 H p (.lst (jB xs lo hi))))->Se K x lo hi H Q
theorem gB:SlR X (Se X.K):=by
 intro pins s σ H x v vl vu lo hi sl Q I rx hs pl pu h
 obtain ⟨a,xs,rfl,hx,q⟩:=h
 cases rx
 obtain ⟨its,r,ht,hz⟩:=I.list hx
 have hlen:=r.length
 refine ⟨"list",_,slot_list_getitem.lookup,ht.isList.typeIs,?_⟩
 refine wpAny_getItem_list_slice ht.isList hs pl pu .none (by simp) ?_ (by rw [size_toArray]<;>omega)
 rw [GF,<-hlen]
 refine ⟨.ref s.heap.objs.size,_,I.laid (t':=s.toks) (o:=.lst (jB xs lo hi)) (fun b ob q=>Heap.get?_push_of_some _ q) (Nat.le_refl _) ?_,rfl,q _ (I.eE.fresh (Nat.le_refl _))⟩
 exact ⟨Nat.le_trans (vP xs lo hi) hz,_,0,(r.drop (HT.sIx xs.length 0 lo)).take (HT.sIx xs.length xs.length hi - HT.sIx xs.length 0 lo),Heap.get?_push_size _ rfl⟩
def Bo:V->Bool
 | .eX=>true
 | .bl _=>true
 | .int _=>true
 | .str _=>true
 | _=>false
def eqV:V->V->Bool
 | .eX,.eX=>true
 | .bl a,.bl b=>a==b
 | .bl a,.int b=>(if a then 1 else 0)==b
 | .int a,.bl b=>a==(if b then 1 else 0)
 | .int a,.int b=>a==b
 | .str a,.str b=>a==b
 | _,_=>false
theorem Rq{A:Around}{s:Shared}{y x:V}{u v:Value}(ry:cJ y u)(rx:cJ x v)(fy:Bo y=true)(fx:Bo x=true):SeqAt.EqAt A s u v (eqV y x):=by
 cases y with
 | eX =>
  cases ry
  cases x with
  | eX=>cases rx;exact SeqAt.EqAt.same _
  | bl b=>cases rx;exact SeqAt.EqAt.none_bool b
  | int b=>obtain ⟨t,rfl⟩:=rx;exact SeqAt.EqAt.none_int b t
  | str b=>obtain ⟨t,rfl⟩:=rx;exact SeqAt.EqAt.none_str b t
  | _=>exact absurd (show false=true from fx) Bool.false_ne_true
 | bl a =>
  cases ry
  cases x with
  | eX=>cases rx;exact SeqAt.EqAt.bool_none a
  | bl b=>cases rx;exact SeqAt.EqAt.bool_bool a b
  | int b=>obtain ⟨t,rfl⟩:=rx;exact SeqAt.EqAt.bool_int a b t
  | str b=>obtain ⟨t,rfl⟩:=rx;exact SeqAt.EqAt.bool_str a b t
  | _=>exact absurd (show false=true from fx) Bool.false_ne_true
 | int a =>
  obtain ⟨t',rfl⟩:=ry
  cases x with
  | eX=>cases rx;exact SeqAt.EqAt.int_none a t'
  | bl b=>cases rx;exact SeqAt.EqAt.int_bool a t' b
  | int b=>obtain ⟨t,rfl⟩:=rx;exact SeqAt.EqAt.int_int a t' b t
  | str b=>obtain ⟨t,rfl⟩:=rx;exact SeqAt.EqAt.int_str a t' b t
  | _=>exact absurd (show false=true from fx) Bool.false_ne_true
 | str a =>
  obtain ⟨t',rfl⟩:=ry
  cases x with
  | eX=>cases rx;exact SeqAt.EqAt.str_none a t'
  | bl b=>cases rx;exact SeqAt.EqAt.str_bool a t' b
  | int b=>obtain ⟨t,rfl⟩:=rx;exact SeqAt.EqAt.str_int a t' b t
  | str b=>obtain ⟨t,rfl⟩:=rx;exact SeqAt.EqAt.str_str a t' b t
  | _=>exact absurd (show false=true from fx) Bool.false_ne_true
 | _=>exact absurd (show false=true from fy) Bool.false_ne_true
def eqU(x:V)(u:Value):Bool:=match u with
 | .none=>eqV .eX x
 | .bool b=>eqV (.bl b) x
 | .int i _=>eqV (.int i) x
 | .str z _=>eqV (.str z) x
 | _=>false
theorem OE{x y:V}{u:Value}(r:cJ y u)(f:Bo y=true):eqU x u=eqV y x:=by
 cases y with
 | eX=>cases r;rfl
 | bl b=>cases r;rfl
 | int i=>obtain ⟨t,rfl⟩:=r;rfl
 | str z=>obtain ⟨t,rfl⟩:=r;rfl
 | _=>exact absurd (show false=true from f) Bool.false_ne_true
theorem Az{x:V}:∀ {xs:List V} {us:List Value},b9 xs us->xs.all Bo=true->us.any (eqU x)=xs.any fun y=>eqV y x
 | _,_,.nil,_=>rfl
 | y::xs,u::us,.cons r t,f=>by
  rw [all_cons,Bool.and_eq_true] at f
  rw [List.any_cons,List.any_cons,OE r f.1,Az t f.2]
theorem t5{A:Around}{s:Shared}{x:V}{v:Value}(rx:cJ x v)(fx:Bo x=true):∀ {xs:List V} {us:List Value},b9 xs us->xs.all Bo=true->∀ u∈us,SeqAt.EqAt A s u v (eqU x u)
 | _,_,.nil,_=>fun u hu=>by cases hu
 | y::xs,u::us,.cons r t,f=>fun u' hu=>by
  rw [all_cons,Bool.and_eq_true] at f
  rcases mem_cons.mp hu with rfl|hu
  ·rw [OE r f.1];exact Rq r rx f.1 fx
  ·exact t5 rx fx t f.2 u' hu
def inV(x:V)(xs:List V):Bool:=xs.any fun y=>eqV y x
def rIn(K:Frag)(neg:Bool):R2:=fun x y H Q=>∃ p xs,y=.ref p/\(cT K H p xs\/SqT K H p xs)/\Bo x=true/\xs.all Bo=true/\Q (.bl (if neg then !inV x xs else inV x xs)) H
theorem HU:Dr X (compareOp .In) (rIn X.K false):=by
 intro pins s σ H x y v u Q I rx ry h
 obtain ⟨p,xs,rfl,hq,fx,fs,q⟩:=h
 cases ry
 rcases hq with hq|hq
 ·obtain ⟨its,r,pl,hz⟩:=I.list hq
  refine SeqAt.in_listAt (eqU x) pl.isList (fun w hw=>t5 rx fx r fs w (by simpa using hw)) ⟨.bl _,H,I,rfl,?_⟩
  rw [show its.toArray.any (eqU x)=its.any (eqU x) by simp,Az r fs]
  exact q
 ·obtain ⟨its,r,pl,hz⟩:=I.tuple hq
  refine SeqAt.in_tupleAt (eqU x) pl (fun w hw=>t5 rx fx r fs w (by simpa using hw)) ⟨.bl _,H,I,rfl,?_⟩
  rw [show its.toArray.any (eqU x)=its.any (eqU x) by simp,Az r fs]
  exact q
theorem Bw:Dr X (compareOp .NotIn) (rIn X.K true):=by
 intro pins s σ H x y v u Q I rx ry h
 obtain ⟨p,xs,rfl,hq,fx,fs,q⟩:=h
 cases ry
 rcases hq with hq|hq
 ·obtain ⟨its,r,pl,hz⟩:=I.list hq
  refine SeqAt.notIn_listAt (eqU x) pl.isList (fun w hw=>t5 rx fx r fs w (by simpa using hw)) ⟨.bl _,H,I,rfl,?_⟩
  rw [show its.toArray.any (eqU x)=its.any (eqU x) by simp,Az r fs]
  exact q
 ·obtain ⟨its,r,pl,hz⟩:=I.tuple hq
  refine SeqAt.notIn_tupleAt (eqU x) pl (fun w hw=>t5 rx fx r fs w (by simpa using hw)) ⟨.bl _,H,I,rfl,?_⟩
  rw [show its.toArray.any (eqU x)=its.any (eqU x) by simp,Az r fs]
  exact q
inductive Mx(K:Frag)(xs:List V)(H:Hp)(Q:VK):Prop
 | mk:∀ p ys,xs=[.ref p]->(cT K H p ys\/SqT K H p ys)->Q (.int ys.length) H->Mx K xs H Q
theorem B9:AL X (.builtin "len") (Mx X.K):=by
 intro pins s σ H xs us Q I r h
 obtain ⟨p,ys,rfl,hq,q⟩:=h
 obtain ⟨u,rfl,rx⟩:=O8 r
 cases rx
 have hn:=IB
 rcases hq with hq|hq
 ·obtain ⟨its,r',pl,hz⟩:=I.list hq
  have hlen:=r'.length
  exact Calls.call_len_list pl.isList (by simp only [size_toArray]<;>omega) ⟨.int ys.length,H,I.tok _,⟨s.toks+1,by rw [size_toArray,hlen]⟩,q⟩
 ·obtain ⟨its,r',pl,hz⟩:=I.tuple hq
  have hlen:=r'.length
  exact len_tuple pl (by simp only [size_toArray]<;>omega) ⟨.int ys.length,H,I.tok _,⟨s.toks+1,by rw [size_toArray,hlen]⟩,q⟩
def tyV(K:Frag)(T:String)(x:V)(H:Hp):Prop:=match x with
 | .str _=>T="str"
 | .int _=>T="int"
 | .ref p=>(T="list"/\∃ xs,cT K H p xs)\/(T="tuple"/\∃ o,K.lookup p=some o/\o.cls=.type "tuple"/\o.dict=none) ∨
  (T="dict"/\((∃ kvs,H p=some (.dK kvs))\/∃ kvs,H p=some (.dT kvs)))\/(T="set"/\∃ S n,H p=some (.set S n))
 | _=>False
theorem QP{pins:List (Addr×Obj)}{σ:St}{H:Hp}{s:Shared}{T:String}{x:V}{v:Value}(I:bN X pins σ H s)(r:cJ x v)(ty:tyV X.K T x H) :
 s.TypeIs v T/\∀ a,v=.ref a->∃ ob,s.heap.get? a=some ob/\ob.dict=none:=by
 cases x with
 | str z =>
  obtain ⟨t,rfl⟩:=r
  cases (show T="str" from ty)
  exact ⟨typeIs_str s z t,fun _ e=>nomatch e⟩
 | int i =>
  obtain ⟨t,rfl⟩:=r
  cases (show T="int" from ty)
  exact ⟨typeIs_int s i t,fun _ e=>nomatch e⟩
 | ref p =>
  cases r
  rcases ty with ⟨rfl,xs,hq⟩|⟨rfl,o,hk,hc,hd⟩|⟨rfl,hk⟩|⟨rfl,S,n,hk⟩
  ·obtain ⟨its,_,pl,_⟩:=I.list hq
   refine ⟨pl.isList.typeIs,fun a e=>?_⟩
   cases e
   obtain ⟨o,n,e,c,hd,_⟩:=pl
   exact ⟨o,e,hd⟩
  ·refine ⟨⟨o,I.kIn p o hk,hc⟩,fun a e=>?_⟩
   cases e
   exact ⟨o,I.kIn _ o hk,hd⟩
  ·have z:∃ o,s.heap.get? p=some o/\o.ExactDict:=by
    rcases hk with ⟨kvs,hk⟩|⟨kvs,hk⟩
    ·obtain ⟨_,_,_,_,o,_,_,e,ex,_⟩:=I.eE p _ hk
     exact ⟨o,e,ex⟩
    ·obtain ⟨_,_,_,_,o,_,_,e,ex,_⟩:=I.eE p _ hk
     exact ⟨o,e,ex⟩
   obtain ⟨o,e,ex⟩:=z
   refine ⟨⟨o,e,ex.1⟩,fun a e2=>?_⟩
   cases e2
   exact ⟨o,e,ex.2.1⟩
  ·obtain ⟨o,_,_,_,e,ex,_⟩:=I.eE p _ hk
   refine ⟨⟨o,e,ex.1⟩,fun a e2=>?_⟩
   cases e2
   exact ⟨o,e,ex.2.1⟩
 | _=>exact False.elim ty
def tBM(K:Frag)(T:String)(r:V->List V->Hp->VK->Prop)(to:TE)(t:TA):TE:=fun σ H Q=>to σ H fun x H1=>tyV K T x H1/\t σ H1 fun xs H2=>r x xs H2 Q
variable {o e:Expr}{es:List Expr}{to:TE}{t:TA}{name:Str}{apos cpos:Pos}{T id:String}{r:V->List V->Hp->VK->Prop}
theorem yM(pa:PlainAttrs T)(slot:Slot T name id)(hty:typeOf (.builtin id)=pure (.type "method_descriptor"))(hm:MtR X id r)(ho:PE X o to)(ha:PA X (e::es) t)
 (hbase:attributeBase o name X.env (eval o X.env)=eval o X.env:=by rfl)
 (hfew:((backTo cpos (starEach (e::es) X.env)).all (fun x=>!x.1)&&(backToKw cpos (keywordEach [] X.env)).all (fun x=>x.1.isSome)
 &&decide ((e::es).length+([]:List Keyword).length+(if ([]:List Keyword).isEmpty then 0 else 1)<30))=true:=by rfl)
 (hline:(apos.endLine==cpos.line)=true:=by rfl) (hs:starEach (e::es) X.env=(false,eval e X.env)::starEach es X.env:=by rfl) (hplain:(backTo cpos (starEach es X.env)).any (·.1)=false:=by rfl) :
 PE X (.Call (.Attribute o name apos) (e::es) [] cpos) (tBM X.K T r to t):=by
 intro pins s σ H Q I h
 refine wpAny_Call_method_late hbase hfew hline rfl (eD (ho pins s σ H _ I h) fun v s1 ⟨x,H1,I1,r1,ty,q1⟩=>?_)
 obtain ⟨h1,h2⟩:=QP I1 r1 ty
 refine ⟨T,id,pa,slot,hty,h1,h2,?_⟩
 have hA:=ha cpos pins s1 σ H1 _ I1 q1
 rw [hs] at hA ⊢
 refine Calls.callWith_builtin (by show (false||(backTo cpos (starEach es X.env)).any (·.1))=false;rw [hplain]<;>rfl) (Calls.evalArgs_plain ?_)
 exact eD hA fun us s2 ⟨vs,H2,I2,r2,q2⟩=>hm pins s2 σ H2 x vs v us Q I2 r1 r2 q2
end
def MtM(X:Cx)(id:String)(r:V->List V->Hp->VK->Prop):Prop :=
 ∀ (pins:List (Addr×Obj)) (s:Shared) (σ:St) (H:Hp) (x:V) (xs:List V) (v:Value) (us:List Value) (Q:VK),bN X pins σ H s->cJ x v->b9 xs us->r x xs H Q →
  wpAny (model X.prog X.w) X.A (call (.builtin id) (v::us)) (EP X pins σ Q) X.xe s
theorem b9.one:∀ {x:V} {us:List Value},b9 [x] us->∃ u,us=[u]/\cJ x u
 | _,_,.cons r .nil=>⟨_,rfl,r⟩
section
variable {X:Cx}{pins:List (Addr×Obj)}{σ:St}{H:Hp}{s:Shared}{l b:Addr}{xs ys zs:List V}
theorem bN.R8{its its':List Value}{n:Nat}{f:Array Value->Array Value}{t':Nat}(I:bN X pins σ H s)(hH:H l=some (.lst xs))
 (e:s.heap.get? l=some { cls:=.type "list",data:=.seq its.toArray n }) (hf:f its.toArray=its'.toArray) (hv:b9 ys its') (hz:ys.length<=sizeLine) :
 bN X pins σ (a6 H l (.lst ys)) { s with heap:=s.heap.update l (Obj.mapSeq f),toks:=t' }:=by
 have q:=PySem.IsL.update e f
 rw [hf] at q
 refine I.write (x:=l) (e:=l) (by rw [hH];exact trivial) (.inl rfl) (fun b' u hb hu=>(Heap.get?_update_other s.heap (Obj.mapSeq f) (Ne.symm hb)).trans hu) ⟨_,q⟩ ?_
 exact ⟨hz,its',_,hv,q⟩
theorem bN.SW{its:List Value}{t':Nat}(I:bN X pins σ H s)(hv:b9 ys its)(hz:ys.length<=sizeLine) :
 bN X pins σ (a6 H s.heap.objs.size (.lst ys)) { s with heap:=s.heap.push { cls:=.type "list",data:=.seq its.toArray },toks:=t' } :=
 I.laid (fun _ _ q=>Heap.get?_push_of_some _ q) (Nat.le_refl _) ⟨hz,its,0,hv,Heap.get?_push_size _ rfl⟩
theorem bN.fresh(I:bN X pins σ H s):H s.heap.objs.size=none:=I.eE.fresh (Nat.le_refl _)
theorem bN.R9(I:bN X pins σ H s)(hH:H l=some (.lst xs)):xs.length<=sizeLine/\∃ (its:List Value) (n:Nat),b9 xs its/\xs.length=its.length/\s.heap.get? l=some { cls:=.type "list",data:=.seq its.toArray n }:=by
 obtain ⟨z,its,n,r,e⟩:=I.eE l _ hH
 exact ⟨z,its,n,r,r.length,e⟩
theorem Oo{n:Nat}(h:n<=sizeLine):Builtin.List.listTooLong n=false:=by
 unfold Builtin.List.listTooLong
 exact decide_eq_false (by omega)
end
section
variable {X:Cx}
inductive ME(x:V)(vs:List V)(H:Hp)(Q:VK):Prop
 | mk:∀ l xs y,x=.ref l->vs=[y]->H l=some (.lst xs)->xs.length<sizeLine->Q .eX (a6 H l (.lst (xs++[y])))->ME x vs H Q
theorem j1:MtM X "list.append" ME:=by
 intro pins s σ H x vs v us Q I rx rv h
 obtain ⟨l,xs,y,rfl,rfl,hH,hz,q⟩:=h
 cases rx
 obtain ⟨u,rfl,ru⟩:=rv.one
 obtain ⟨z,its,n,r,hl,e⟩:=I.R9 hH
 refine call_meets F.slot_list_append ⟨_,e,rfl⟩ F.entry_list_append (F.args_list_append_2 _ _) (PySem.list_append l its.toArray n u (by rw [size_toArray];omega)) ⟨e,?_⟩
 refine ⟨.eX,_,I.R8 (its':=its++[u]) hH e (by simp) (r.append (.cons ru .nil)) ?_,rfl,q⟩
 rw [length_append,List.length_singleton]
 omega
end
section
variable {prog:Program}{w:World}{A:Around}{E:Value->Shared->Prop}{s:Shared}
set_option maxRecDepth 100000 in
end
theorem b9.ints:∀ {ns:List Int} {us:List Value},b9 (ns.map V.int) us->IntsAre us ns
 | [],us,h=>by
  rw [List.map_nil] at h
  cases h
  exact IntsAre.nil
 | n::ns,us,h=>by
  rw [map_cons] at h
  cases h with
  | cons r t =>
   obtain ⟨k,rfl⟩:=r
   exact IntsAre.cons n k (b9.ints t)
theorem AR:∀ {us:List Value} {ns:List Int},IntsAre us ns->b9 (ns.map V.int) us
 | _,_,.nil=>by rw [List.map_nil];exact Paired.nil
 | _,_,.cons n t h=>by rw [map_cons];exact Paired.cons (show cJ (V.int n) (Value.int n t) from ⟨t,rfl⟩) (AR h)
theorem b9.bls:∀ {bs:List Bool} {us:List Value},b9 (bs.map V.bl) us->us=bs.map Value.bool
 | [],us,h=>by
  rw [List.map_nil] at h
  cases h
  rfl
 | b::bs,us,h=>by
  rw [map_cons] at h
  cases h with
  | cons r t =>
   cases r
   rw [b9.bls t,map_cons]
theorem b9.S5{a:Addr}{us:List Value}(r:b9 [V.ref a] us):us=[Value.ref a]:=by
 cases r with
 | cons r t =>
  cases t
  cases r
  rfl
theorem O1{prog:Program}{w:World}{A:Around}{E:Value->Shared->Prop}{s:Shared}{l:Addr}{items:Array Value}{Q:Value->Shared->Prop}(hl:s.heap.IsList l items)
 (h:∀ s₂:Shared,s₂={ s with heap:=s.heap.push { cls:=.type "list_iterator",data:=.fields #[.ref l,.int 0 0] } } →
  (s₂.heap.IsListIter s.heap.objs.size l 0/\s₂.heap.IsList l items)->l≠s.heap.objs.size->Q (.ref s.heap.objs.size) s₂):wpAny (model prog w) A (pyIter (.ref l)) Q E s:=by
 have hlt:l<s.heap.objs.size:=by obtain ⟨_,e,_⟩:=hl;exact Heap.lt_size e
 exact wpAny_pyIter_list hl (h _ rfl ⟨⟨_,Heap.get?_push_size _ rfl,rfl,rfl⟩,hl.push _⟩ (Nat.ne_of_lt hlt))
theorem J9{prog:Program}{w:World}{A:Around}{bs:List Bool}{its:List Value}(e:its=bs.map Value.bool) :
 TruthOf prog w A (fun i v=>its.toArray[i]?=some v) (fun i=>bs.getD i false):=fun i v s Q E hv hq=>by
 have hv':its[i]?=some v:=by simpa using hv
 rw [e,getElem?_map] at hv'
 obtain ⟨b,hb,rfl⟩:=Option.map_eq_some_iff.mp hv'
 have hg:bs.getD i false=b:=by rw [getD_eq_getElem?_getD,hb]<;>rfl
 have hq':Q (bs.getD i false) s:=hq
 rw [hg] at hq'
 exact wpAny_truthy_bool hq'
theorem Hd:∀ bs:List Bool,(List.range bs.length).any (fun i=>bs.getD i false)=bs.any id
 | []=>rfl
 | b::bs=>by
  rw [length_cons,List.range_succ_eq_map,List.any_cons,List.any_map,List.any_cons,<-Hd bs]
  all_goals rfl
section
variable {X:Cx}
inductive RZ(K:Frag)(vs:List V)(H:Hp)(Q:VK):Prop
 | mk:∀ (a:Addr) (bs:List Bool),vs=[V.ref a]->cT K H a (bs.map V.bl)->Q (.bl (bs.any id)) H->RZ K vs H Q
theorem Q4(hc:X.calm=true):AL X (.builtin "any") (RZ X.K):=by
 intro pins s σ H vs us Q I r h
 obtain ⟨a,bs,rfl,hs,q⟩:=h
 obtain ⟨its,rv,hl,_⟩:=I.list hs
 rw [b9.S5 r]
 have hb:=rv.bls
 refine call_any_walk (O1 hl.isList fun s₂ e2 st hne=>?_)
 subst e2
 refine ⟨_,_,_,_,_,_,_,rfl,Walks.list (A:=X.A.in1) (I.ok.hd hc) _ a hne its.toArray,st,J9 hb,fun h' tk hk=>?_⟩
 refine ⟨.bl _,H,I.kept fun b o eo=>hk b o (fun hmem=>?_) (Heap.get?_push_of_some _ eo),?_,q⟩
 ·rcases mem_cons.mp hmem with e1|hmem
  ·exact absurd (e1▸Heap.lt_size eo) (Nat.lt_irrefl _)
  ·cases hmem
 ·show Value.bool _=Value.bool _
  rw [<-Hd,hb,size_toArray,length_map]
end
abbrev Ou(h:Heap)(c:Addr)(v:Option Value):Prop:=h.IsCell c v
def Sy(scope sc:Scope):Scope :=
 { scope with names:=scope.names.map fun (n,k)=>if (k==.free&&sc.kind==.function&&sc.names.lookup n==some .cell) then (n,.cell) else (n,k) }
def dX(cells:List (Str×Addr)):List (Str×NameKind)->List (Str×Addr)->List (Str×Addr)
 | [],acc=>acc
 | (n,k)::r,acc=>if k==.free then dX cells r ((n,(cells.lookup n).getD 0)::acc) else dX cells r acc
theorem Bg(env:Env)(f:Str×NameKind->List (Str×Addr)->Sem (ForInStep (List (Str×Addr))))
 (hf:∀ n k c,f (n,k) c=if k==.free then (do let a <-cellOf env n;pure (.yield ((n,a)::c))) else pure (.yield c)) :
 ∀ (names:List (Str×NameKind)) (acc:List (Str×Addr)),(∀ y∈names,y.2=.free->∃ c,env.cells.lookup y.1=some c)->forIn names acc f=pure (dX env.cells names acc)
 | [],acc,_=>by rw [List.forIn_nil];rfl
 | (n,k)::r,acc,h=>by
  rw [List.forIn_cons,hf]
  have ih:=fun acc=>Bg env f hf r acc fun y hy=>h y (mem_cons_of_mem _ hy)
  unfold dX
  by_cases hk:(k==NameKind.free)=true
  ·rw [if_pos hk,if_pos hk]
   obtain ⟨c,hc⟩:=h (n,k) List.mem_cons_self (by simpa using hk)
   have e:cellOf env n=pure c:=by unfold cellOf;rw [hc]
   rw [e]
   have e2:(env.cells.lookup n).getD 0=c:=by rw [hc];rfl
   rw [e2]
   exact ih _
  ·rw [if_neg hk,if_neg hk]
   exact ih _
theorem Mh{scope:Scope}{env:Env}(h:∀ y∈scope.names,y.2=.free->∃ c,env.cells.lookup y.1=some c):closureFor scope env=pure (dX env.cells scope.names []):=by
 simp only [closureFor]
 rw [Bg env _ (fun n k c=>rfl) scope.names [] h]
 rfl
theorem zR{α:Type}:∀ {l:List (Str×α)} {n:Str} {c:α},(n,c)∈l->∃ c',l.lookup n=some c'
 | (k,v)::r,n,c,h=>by
  rw [List.lookup_cons]
  cases hb:n==k with
  | true=>exact ⟨_,rfl⟩
  | false =>
   rcases mem_cons.mp h with e|h
   ·cases e;simp at hb
   ·exact zR h
theorem p3{cells:List (Str×Addr)}:∀ {names:List (Str×NameKind)} {acc:List (Str×Addr)} {n:Str} {c:Addr},(n,c)∈dX cells names acc->(n,c)∈acc\/((n,.free)∈names/\c=(cells.lookup n).getD 0)
 | [],_,_,_,h=>.inl h
 | (m,k)::r,acc,n,c,h=>by
  unfold dX at h
  split at h
  ·rename_i hk
   have hk:k=.free:=by simpa using hk
   rcases p3 h with h|⟨h1,h2⟩
   ·rcases mem_cons.mp h with e|h
    ·cases e;exact .inr ⟨hk▸List.mem_cons_self,rfl⟩
    ·exact .inl h
   ·exact .inr ⟨mem_cons_of_mem _ h1,h2⟩
  ·rcases p3 h with h|⟨h1,h2⟩
   ·exact .inl h
   ·exact .inr ⟨mem_cons_of_mem _ h1,h2⟩
theorem vJ{cells:List (Str×Addr)}:∀ {names:List (Str×NameKind)} {acc:List (Str×Addr)} {p:Str×Addr},p∈acc->p∈dX cells names acc
 | [],_,_,h=>h
 | (m,k)::r,acc,p,h=>by
  unfold dX
  split
  ·exact vJ (mem_cons_of_mem _ h)
  ·exact vJ h
theorem wF{cells:List (Str×Addr)}:∀ {names:List (Str×NameKind)} {acc:List (Str×Addr)} {n:Str},(n,.free)∈names->(n,(cells.lookup n).getD 0)∈dX cells names acc
 | (m,k)::r,acc,n,h=>by
  unfold dX
  rcases mem_cons.mp h with e|h
  ·cases e
   exact vJ List.mem_cons_self
  ·split
   ·exact wF h
   ·exact wF h
theorem rB:∀ {names:List (Str×NameKind)} {h:Heap} {acc:List (Str×Addr)} {x:Str} {c:Addr},(x,c)∈cellsFrom h.objs.size names acc →
 (x,c)∈acc\/((x,.cell)∈names/\h.objs.size<=c/\Ou (pushCells h names) c none)
 | [],_,_,_,_,h=>.inl h
 | (n,k)::r,h,acc,x,c,hm=>by
  unfold cellsFrom at hm
  unfold pushCells
  split at hm
  ·rename_i hk
   rw [if_pos hk]
   have hk:k=.cell:=by simpa using hk
   rw [<-Heap.size_push h { cls:=.type "cell",data:=.cell none }] at hm
   rcases rB hm with hm|⟨h1,h2,h3⟩
   ·rcases mem_cons.mp hm with e|hm
    ·cases e
     exact .inr ⟨hk▸List.mem_cons_self,Nat.le_refl _,_,pushCells_keeps r _ _ _ (Heap.get?_push_size _ rfl),rfl⟩
    ·exact .inl hm
   ·rw [Heap.size_push] at h2
    exact .inr ⟨mem_cons_of_mem _ h1,Nat.le_of_succ_le h2,h3⟩
  ·rename_i hk
   rw [if_neg hk]
   rcases rB hm with hm|⟨h1,h2,h3⟩
   ·exact .inl hm
   ·exact .inr ⟨mem_cons_of_mem _ h1,h2,h3⟩
theorem wO:∀ {names:List (Str×NameKind)} {n:Nat} {acc:List (Str×Addr)} {p:Str×Addr},p∈acc->p∈cellsFrom n names acc
 | [],_,_,_,h=>h
 | (m,k)::r,n,acc,p,h=>by
  unfold cellsFrom
  split
  ·exact wO (mem_cons_of_mem _ h)
  ·exact wO h
theorem Cd:∀ {names:List (Str×NameKind)} {n:Nat} {acc:List (Str×Addr)} {x:Str},(x,.cell)∈names->∃ c,(x,c)∈cellsFrom n names acc
 | (m,k)::r,n,acc,x,h=>by
  unfold cellsFrom
  rcases mem_cons.mp h with e|h
  ·cases e
   exact ⟨n,wO List.mem_cons_self⟩
  ·split
   ·exact Cd h
   ·exact Cd h
theorem CG:∀ {names:List (Str×NameKind)} {h:Heap} {acc:List (Str×Addr)} {x y:Str} {c:Addr},(∀ p∈acc,p.2<h.objs.size)->(∀ x y c,(x,c)∈acc->(y,c)∈acc->x=y) →
 (x,c)∈cellsFrom h.objs.size names acc->(y,c)∈cellsFrom h.objs.size names acc->x=y
 | [],_,_,_,_,_,_,hi,h1,h2=>hi _ _ _ h1 h2
 | (n,k)::r,h,acc,x,y,c,hl,hi,h1,h2=>by
  unfold cellsFrom at h1 h2
  split at h1
  ·rename_i hk
   rw [if_pos hk] at h2
   rw [<-Heap.size_push h { cls:=.type "cell",data:=.cell none }] at h1 h2
   refine CG (h:=h.push _) (fun p hp=>?_) (fun x y c a b=>?_) h1 h2
   ·rw [Heap.size_push]
    rcases mem_cons.mp hp with rfl|hp
    ·exact Nat.lt_succ_self _
    ·exact Nat.lt_succ_of_lt (hl p hp)
   ·rcases mem_cons.mp a with e|a<;>rcases mem_cons.mp b with e'|b
    ·cases e;cases e';rfl
    ·cases e;exact absurd (hl _ b) (Nat.lt_irrefl _)
    ·cases e';exact absurd (hl _ a) (Nat.lt_irrefl _)
    ·exact hi _ _ _ a b
  ·rename_i hk
   rw [if_neg hk] at h2
   exact CG hl hi h1 h2
theorem Ke{M:Model}{A:Around}{E:Value->Shared->Prop}{s:Shared}{scope:Scope}{globals:Addr}{closure:List (Str×Addr)}{qual:Str}{func:Option Addr}{code:Value}{around:Env}{builtins:Addr}{Q:Env->Shared->Prop}
 (h:Q (newEnv scope s.heap.objs.size globals (cellsFrom (s.heap.objs.size+1) scope.names closure) qual func code (some around) builtins)
  { s with heap:=pushCells (s.heap.push { cls:=.type "dict",data:=.dict #[] }) scope.names }) :
 wpAny M A (newFunctionEnv scope globals closure [] qual func code (some around) builtins) Q E s:=by
 simp only [newFunctionEnv,Option.isSome_some,if_true]
 refine wpAny_bind (wpAny_alloc ?_)
 refine wpAny_bind (wpAny_layCells _ (fun n k c=>rfl) scope.names closure _ _ ?_)
 rw [show ({ s with heap:=s.heap.push { cls:=.type "dict",data:=.dict #[] } }:Shared).heap.objs.size=s.heap.objs.size+1 from Heap.size_push ..]
 rw [List.forIn_nil]
 exact wpAny_bind (wpAny_pure (wpAny_pure h))
theorem vH{sc:Scope}:∀ {names:List (Str×NameKind)} {x:Str} {k:NameKind},
 (names.map fun (n,k)=>if (k==NameKind.free&&sc.kind==.function&&sc.names.lookup n==some .cell) then (n,NameKind.cell) else (n,k)).lookup x=some k →
 ∃ k',names.lookup x=some k'/\(k=k'\/(k'=.free/\k=.cell))
 | [],_,_,h=>by simp at h
 | (n,k₀)::r,x,k,h=>by
  have ih:=@vH sc r x k
  have h':List.lookup x ((if (k₀==NameKind.free&&sc.kind==.function&&sc.names.lookup n==some .cell)=true then (n,NameKind.cell) else (n,k₀))::(r.map _))=some k:=h
  cases hx:x==n with
  | true =>
   simp only [List.lookup_cons,hx]
   by_cases hc:(k₀==NameKind.free&&sc.kind==.function&&sc.names.lookup n==some .cell)=true
   ·rw [if_pos hc] at h'
    simp only [List.lookup_cons,hx] at h'
    cases h'
    simp only [Bool.and_eq_true,beq_iff_eq] at hc
    exact ⟨k₀,rfl,.inr ⟨hc.1.1,rfl⟩⟩
   ·rw [if_neg hc] at h'
    simp only [List.lookup_cons,hx] at h'
    cases h'
    exact ⟨_,rfl,.inl rfl⟩
  | false =>
   simp only [List.lookup_cons,hx]
   by_cases hc:(k₀==NameKind.free&&sc.kind==.function&&sc.names.lookup n==some .cell)=true
   ·rw [if_pos hc] at h'
    simp only [List.lookup_cons,hx] at h'
    exact ih h'
   ·rw [if_neg hc] at h'
    simp only [List.lookup_cons,hx] at h'
    exact ih h'
structure Dk(N:List Str)(sc scope:Scope)(own:List (Str×Nat)):Prop where
 kind:scope.kind=.function
 uniq:∀ y∈scope.names,scope.names.lookup y.1=some y.2
 ix:∀ p∈own,N[p.2]?=some p.1
 free:∀ y∈scope.names,y.2=.free->sc.names.lookup y.1=some .cell\/sc.names.lookup y.1=some .free
 own:∀ y∈scope.names,y.2=.local\/y.2=.cell->y.1∈own.map (·.1)\/y.1∉N
def m_(σ:St):List Nat->St
 | []=>σ
 | v::vs=>(m_ σ vs).set v none
theorem uV(σ:St):∀ vs:List Nat,(m_ σ vs).length=σ.length
 | []=>rfl
 | v::vs=>by unfold m_;rw [List.length_set,uV σ vs]
theorem Cf{σ:St}{i:Nat}{x:V}:∀ {vs:List Nat},(m_ σ vs)[i]?=some (some x)->σ[i]?=some (some x)/\i∉vs
 | [],h=>⟨h,by simp⟩
 | v::vs,h=>by
  unfold m_ at h
  by_cases hi:v=i
  ·subst hi
   by_cases hv:v<(m_ σ vs).length
   ·rw [List.getElem?_set_self hv] at h;cases h
   ·rw [List.getElem?_eq_none (by simpa using hv)] at h;cases h
  ·rw [List.getElem?_set_ne hi] at h
   obtain ⟨h1,h2⟩:=Cf h
   exact ⟨h1,by simp only [mem_cons,not_or];exact ⟨fun e=>hi e.symm,h2⟩⟩
abbrev Cx.blk(X:Cx)(s:Shared)(H:Hp)(scope:Scope)(cenv:Env)(fp:List Addr):Cx:={ X with DO:=s,H_0:=H,env:=cenv,outer:=X.stack,ex:=fp,fn:=fun x=>scope.names.lookup x==some .cell,pn:=[],xe:=fun _ _=>False }
section
variable {X:Cx}{pins:List (Addr×Obj)}{σ:St}{H:Hp}{s:Shared}
theorem Ky{scope:Scope}{own:List (Str×Nat)}{fp:List Addr}(I:bN X pins σ H s)(ok:Dk X.N X.env.scope scope own)(hN:X.N.Nodup)(hfp:∀ b∈fp,Gp X pins H b/\b<s.heap.objs.size) :
 bN (X.blk s H scope (compEnvC scope (cellsFrom (s.heap.objs.size+1) scope.names (dX X.env.cells scope.names [])) s.heap.objs.size X.env) fp) [] (m_ σ (own.map (·.2))) H { s with heap:=pushCells (s.heap.push { cls:=.type "dict",data:=.dict #[] }) scope.names }:=by
 have hfree:∀ y∈scope.names,y.2=.free->∃ c,X.env.cells.lookup y.1=some c:=fun y hy e=>by
  rcases ok.free y hy e with k|k
  ·exact I.ok.has _ (.inl k)
  ·exact I.ok.has _ (.inr k)
 generalize hcenv:compEnvC scope (cellsFrom (s.heap.objs.size+1) scope.names (dX X.env.cells scope.names [])) s.heap.objs.size X.env=cenv
 have kp:∀ b o,s.heap.get? b=some o->(pushCells (s.heap.push { cls:=.type "dict",data:=.dict #[] }) scope.names).get? b=some o:=fun b o e=>pushCells_keeps _ _ _ _ (Heap.get?_push_of_some _ e)
 have hL:cenv.locals=s.heap.objs.size:=by rw [<-hcenv];rfl
 have hcl:cenv.cells=cellsFrom (s.heap.objs.size+1) scope.names (dX X.env.cells scope.names []):=by rw [<-hcenv];rfl
 have hsc:cenv.scope=Sy scope X.env.scope:=by rw [<-hcenv];rfl
 rw [<-Heap.size_push s.heap { cls:=.type "dict",data:=.dict #[] }] at hcl
 have cm:∀ {y c},(y,c)∈dX X.env.cells scope.names []->X.env.cells.lookup y=some c/\c<s.heap.objs.size:=fun {y c} hm=>by
  rcases p3 hm with hm|⟨h1,rfl⟩
  ·cases hm
  ·obtain ⟨c,hc⟩:=hfree _ h1 rfl
   rw [hc]
   obtain ⟨w,z⟩:=I.cell _ _ hc
   exact ⟨rfl,z.lt⟩
 have mem:∀ {y c},cenv.cells.lookup y=some c->(X.env.cells.lookup y=some c/\c<s.heap.objs.size)\/(s.heap.objs.size+1<=c/\Ou (pushCells (s.heap.push { cls:=.type "dict",data:=.dict #[] }) scope.names) c none):=fun {y c} e=>by
  rw [hcl] at e
  rcases rB (PySem.mem_of_lookup e) with hm|⟨_,h2,h3⟩
  ·exact .inl (cm hm)
  ·rw [Heap.size_push] at h2;exact .inr ⟨h2,h3⟩
 have look:∀ {y},scope.names.lookup y=some .free->∃ c,cenv.cells.lookup y=some c/\X.env.cells.lookup y=some c:=fun {y} hl=>by
  have hy:(y,NameKind.free)∈scope.names:=PySem.mem_of_lookup hl
  obtain ⟨c',e'⟩:=zR (wO (names:=scope.names) (n:=(s.heap.push { cls:=.type "dict",data:=.dict #[] }).objs.size) (wF (cells:=X.env.cells) (acc:=[]) hy))
  rw [<-hcl] at e'
  refine ⟨c',e',?_⟩
  rw [hcl] at e'
  rcases rB (PySem.mem_of_lookup e') with hm|⟨h1,_,_⟩
  ·exact (cm hm).1
  ·have:=ok.uniq _ h1
   rw [hl] at this;cases this
 have okB:(X.blk s H scope cenv fp).Ok:=by
  refine ⟨I.ok.mod,by show cenv.scope.kind=_;rw [hsc];exact ok.kind,by show cenv.globals=_;rw [<-hcenv];exact I.ok.glob,by show cenv.builtins=_;rw [<-hcenv];exact I.ok.blt,by show s.heap.objs.size<=cenv.locals;rw [hL];exact Nat.le_refl _,
   fun y z c e1 e2=>?_,fun y hy=>?_,fun y c z e=>?_,I.ok.hd,I.ok.frames,.inl rfl,fun b hb=>⟨?_,fun y c e z=>?_⟩,I.bs,Nat.le_trans I.ok.bsz I.sz,fun b o e hb=>?_,fun b hb z=>?_,I.stack,I.D8⟩
  ·have e1:cenv.cells.lookup y=some c:=e1
   have e2:cenv.cells.lookup z=some c:=e2
   rw [hcl] at e1 e2
   refine CG (fun p hp=>?_) (fun y z c a b=>I.ok.inj y z c (cm a).1 (cm b).1) (PySem.mem_of_lookup e1) (PySem.mem_of_lookup e2)
   rw [Heap.size_push]
   exact Nat.lt_succ_of_lt (cm (y:=p.1) (c:=p.2) hp).2
  ·show ∃ c,cenv.cells.lookup y=some c
   have key:∀ k,cenv.kindOf y=some k->(k=.cell\/k=.free)->∃ c,cenv.cells.lookup y=some c:=fun k hk hk'=>by
    unfold Env.kindOf at hk
    rw [hsc] at hk
    obtain ⟨k',e,r⟩:=vH hk
    have:k'=.cell\/k'=.free:=by
     rcases r with rfl|⟨rfl,_⟩
     ·exact hk'
     ·exact .inr rfl
    rcases this with rfl|rfl
    ·obtain ⟨c,hm⟩:=Cd (n:=(s.heap.push { cls:=.type "dict",data:=.dict #[] }).objs.size) (acc:=dX X.env.cells scope.names []) (PySem.mem_of_lookup e)
     obtain ⟨c',e'⟩:=zR hm
     exact ⟨c',by rw [hcl];exact e'⟩
    ·obtain ⟨c,h1,_⟩:=look e
     exact ⟨c,h1⟩
   rcases hy with hy|hy
   ·exact key _ hy (.inl rfl)
   ·exact key _ hy (.inr rfl)
  ·have z:(scope.names.lookup y==some NameKind.cell)=true:=z
   have z:scope.names.lookup y=some .cell:=by simpa using z
   have e:cenv.cells.lookup y=some c:=e
   rw [hcl] at e
   rcases rB (PySem.mem_of_lookup e) with hm|⟨_,h2,_⟩
   ·rcases p3 hm with hm|⟨h1,_⟩
    ·cases hm
    ·have q:=ok.uniq _ h1
     rw [z] at q;cases q
   ·rw [Heap.size_push] at h2
    exact Nat.le_of_succ_le h2
  ·show b≠cenv.locals
   rw [hL];exact Nat.ne_of_lt (hfp b hb).2
  ·have e:cenv.cells.lookup y=some c:=e
   rcases mem e with ⟨h1,_⟩|⟨h1,_⟩
   ·exact (hfp b hb).1.2.2.2.2.1 y c h1 z
   ·have h2:s.heap.objs.size+1<=b:=by rw [<-z];exact h1
    exact absurd (Nat.lt_of_lt_of_le (hfp b hb).2 (Nat.le_of_succ_le h2)) (Nat.lt_irrefl _)
  ·rcases (hfp b hb).1.2.2.2.1 with z|z
   ·exact I.ok.Jx b o e z
   ·exact absurd (Nat.lt_of_lt_of_le (Heap.lt_size e) (Nat.le_trans I.ok.bsz z)) (Nat.lt_irrefl _)
  ·rcases mem_cons.mp (I.LQ b z) with z|z
   ·exact (hfp b hb).1.2.1 z
   ·exact (hfp b hb).1.2.2.1 z
 refine ⟨okB,rfl,I.bare,Un.kept kp,⟨fun _=>none,?_,fun i y av e1 e2 e3=>?_⟩,fun y c e=>?_,?_,fun y c e=>?_,fun p hp=>?_,I.eE.kept kp,by rw [uV];exact I.len⟩
 ·show Heap.Ns _ cenv.locals _
  rw [hL]
  exact Heap.Ns.keeps (Heap.Ns.new ..) fun b o e=>pushCells_keeps _ _ _ _ e
 ·obtain ⟨e2,hne⟩:=Cf e2
  have hfr:scope.names.lookup y=some .free/\(cenv.kindOf y=some .cell\/cenv.kindOf y=some .free):=by
   have key:∀ k,cenv.scope.names.lookup y=some k->k=.local\/k=.cell\/k=.free->scope.names.lookup y=some .free/\(cenv.kindOf y=some .cell\/cenv.kindOf y=some .free):=fun k hk hk'=>by
    have hk0:=hk
    rw [hsc] at hk
    obtain ⟨k',e,r⟩:=vH hk
    have no:¬ (k'=.local\/k'=.cell):=fun hh=>by
     rcases ok.own _ (PySem.mem_of_lookup e) hh with e'|e'
     ·obtain ⟨p,hp,hpy⟩:=mem_map.mp e'
      have e3:=ok.ix p hp
      have:p.1=y:=hpy
      rw [this] at e3
      exact hne (mem_map.mpr ⟨p,hp,Es hN e3 e1⟩)
     ·exact e' (List.mem_of_getElem? e1)
    rcases r with rfl|⟨rfl,rfl⟩
    ·rcases hk' with rfl|rfl|rfl
     ·exact absurd (.inl rfl) no
     ·exact absurd (.inr rfl) no
     ·exact ⟨e,.inr hk0⟩
    ·exact ⟨e,.inl hk0⟩
   have e3:Vis cenv.scope y:=e3
   rcases e3 with e3|e3|e3
   ·exact key _ e3 (.inl rfl)
   ·exact key _ e3 (.inr (.inl rfl))
   ·exact key _ e3 (.inr (.inr rfl))
  obtain ⟨m,hn,hl⟩:=I.loc
  have hvis:Vis X.env.scope y:=(ok.free _ (PySem.mem_of_lookup hfr.1) rfl).elim (fun k=>.inr (.inl k)) (fun k=>.inr (.inr k))
  obtain ⟨w,r,q⟩:=hl i y av e1 e2 hvis
  refine ⟨w,r,.inr ⟨hfr.2,?_⟩⟩
  obtain ⟨c,h1,h2⟩:=look hfr.1
  rcases q with ⟨k,_⟩|⟨_,c',e',z⟩
  ·have k:X.env.scope.names.lookup y=some .local:=k
   rcases ok.free _ (PySem.mem_of_lookup hfr.1) rfl with k'|k'<;>rw [show X.env.scope.names.lookup y=_ from k'] at k<;>cases k
  ·rw [h2] at e';cases e'
   exact ⟨c,h1,z.keeps kp⟩
 ·have e:cenv.cells.lookup y=some c:=e
  rcases mem e with ⟨h1,_⟩|⟨_,z⟩
  ·obtain ⟨w,z⟩:=I.cell y c h1
   exact ⟨w,z.keeps kp⟩
  ·exact ⟨_,z⟩
 ·show H cenv.locals=none
  rw [hL];exact I.eE.fresh (Nat.le_refl _)
 ·have e:cenv.cells.lookup y=some c:=e
  rcases mem e with ⟨h1,_⟩|⟨h1,_⟩
  ·exact I.mP y c h1
  ·exact I.eE.fresh (Nat.le_of_succ_le h1)
 ·exact absurd (show p∈([]:List (Addr×Obj))++[] from hp) (by simp)
theorem RC{E:Value->Shared->Prop}{D:Addr}{xs:List V}{y:V}{v:Value}{Q:Value->Shared->Prop}(I:bN X pins σ H s)(hD:H D=some (.lst xs))(hz:xs.length<sizeLine)(r:cJ y v)
 (h:∀ s',bN X pins σ (a6 H D (.lst (xs++[y]))) s'->Q .none s'):wpAny (model X.prog X.w) X.A (call (.builtin "list.append") [.ref D,v]) Q E s:=by
 obtain ⟨hz',its,n,ri,e⟩:=I.eE D _ hD
 have hl:=ri.length
 refine append_at (hsz:=by rw [size_toArray];omega) e fun h' sb ho'=>?_
 refine h { s with heap:=h' } (I.write (t':=s.toks) (by rw [hD];trivial) (.inl rfl) (fun b u hb q=>(sb.2 b hb).trans q) ⟨_,ho'⟩ ⟨by rw [length_append];exact hz,its++[v],n+1,ri.append (.cons r .nil),?_⟩)
 rw [ho']
 simp
def PTs(X:Cx)(ifs:List Expr)(t:TT):Prop :=
 ∀ (pins:List (Addr×Obj)) (s:Shared) (σ:St) (H:Hp) (Q:Bool->Hp->Prop),bN X pins σ H s->t σ H Q →
  wpAny (model X.prog X.w) X.A (forIn ifs true fun c r=>if r=true then do let ok <-isTrue c X.env (eval c X.env);pure (ForInStep.yield ok) else pure (ForInStep.yield r)) (TP X pins σ Q) X.xe s
def Sg:TT:=fun _ H Q=>Q true H
theorem Qp:PTs X [] Sg:=fun _ _ _ H _ I h=>wpAny_tests_nil ⟨H,I,h⟩
theorem Mo{c:Expr}{t:TT}(h:PT X c t):PTs X [c] t:=fun pins s σ H Q I hw=>wpAny_tests_one (h pins s σ H Q I hw)
end
theorem Ny{α:Type}{t:Sem α}{Q Q':α->Shared->Prop}{M:Model}{A:Around}{E:Value->Shared->Prop}{s:Shared}(h:wpAny M A t Q (fun _ _=>False) s)(hQ:∀ a s,Q a s->Q' a s):wpAny M A t Q' E s:=wpAny_mono h hQ fun _ _ z=>False.elim z
theorem Ij{prog:Program}{w:World}{A:Around}{R:Result->Shared->Prop}{s:Shared}{elt target iter:Expr}{ifs:List Expr}{scope:Scope}{pos:Pos}{it acc:Value}{env:Env}(I:Nat->Shared->Prop)
 (turn:∀ n s,I n s->wpAny (model prog w) A (pyNext it) (fun r s₁=>match r with
  | none=>R (.ok .next) s₁
  | some v=>wpAny (model prog w) A (letOwnedTupleGo target it v) (fun _ s₁'=>wpAny (model prog w) A (assign target env v) (fun _ s₂ =>
   wpAny (model prog w) A (forIn ifs true fun c r=>if r=true then do let ok <-isTrue c env (eval c env);pure (ForInStep.yield ok) else pure (ForInStep.yield r)) (fun ok s₃ =>
    if ok=true then wpAny (model prog w) A (eval elt env) (fun x s₄ =>
     wpAny (model prog w) A (call (.builtin "list.append") [acc,x]) (fun _ s₅=>∃ m,m<n/\I m s₅) (notedBy (model prog w) A env fun e s'=>R (.error e) s') s₄) (notedBy (model prog w) A env fun e s'=>R (.error e) s') s₃
    else ∃ m,m<n/\I m s₃) (notedBy (model prog w) A env fun e s'=>R (.error e) s') s₂) (notedBy (model prog w) A env fun e s'=>R (.error e) s') s₁') (notedBy (model prog w) A env fun e s'=>R (.error e) s') s₁) (notedBy (model prog w) A env fun e s'=>R (.error e) s') s)
 (n:Nat) (h:I n s) :
 codeAny (model prog w) A (.compLoop (.ListComp elt [⟨target,iter,ifs,0⟩] scope pos) 0 it acc env) R s:=by
 refine codeAny_loop rfl I (fun n s hI=>?_) n h
 show wpAny _ A ((compTurn (.ListComp elt [⟨target,iter,ifs,0⟩] scope pos) 0 it acc env).onRaise (fun x=>do noteFrame x env;theTreesLotGoes x)) _ _ s
 refine wpAny_noted ?_
 rw [compTurn_list]
 refine wpAny_bind (wpAny_standAt (wpAny_bind (wpAny_mono (turn n s hI) (fun r s₁ h₁=>?_) fun _ _ h'=>h')))
 cases r with
 | none=>exact wpAny_pure h₁
 | some v =>
  refine wpAny_bind (wpAny_mono h₁ (fun _ s₁' h₁'=>?_) fun _ _ h'=>h')
  refine wpAny_bind (wpAny_mono h₁' (fun _ s₂ h₂=>wpAny_bind (wpAny_mono h₂ (fun ok s₃ h₃=>?_) fun _ _ h'=>h')) fun _ _ h'=>h')
  cases ok with
  | false=>exact wpAny_pure ⟨rfl,h₃⟩
  | true =>
   exact wpAny_bind (wpAny_bind (wpAny_mono h₃ (fun x s₄ h₄=>wpAny_bind (wpAny_mono h₄ (fun _ s₅ h₅=>wpAny_pure (wpAny_pure ⟨rfl,h₅⟩)) fun _ _ h'=>h')) fun _ _ h'=>h'))
section
variable {X:Cx}
def tLc(wi:TI)(g:TG)(tt:TT)(te:TE)(vs:List Nat):TE:=fun σ H Q=>wi σ H fun J H1=>∀ D,H1 D=none->∃ W:Nat->Nat->Hp->Prop,(∃ m,W 0 m (a6 H1 D (.lst [])))/\∀ i m H,W i m H →
 (J.stop i H/\Q (.ref D) H)\/(J.go i H/\∃ Nx:Hp->Prop,(∀ H',Nx H'->∃ m',m'<m/\W (i+1) m' H')/\∀ x H',J.yld i H x H'->g x (m_ σ vs) H' fun σ2 H2=>m_ σ2 vs=m_ σ vs/\tt σ2 H2 fun b H3 =>
  if b=true then te σ2 H3 fun y H4=>∃ acc,H4 D=some (.lst acc)/\acc.length<sizeLine/\Nx (a6 H4 D (.lst (acc++[y]))) else Nx H3)
theorem MB{pins:List (Addr×Obj)}{s:Shared}{σ:St}{H:Hp}{Q:VK}{elt tg iter:Expr}{ifs:List Expr}{scope:Scope}{own:List (Str×Nat)}{pos pos':Pos}{wi:TI}{g:TG}{tt:TT}{te:TE}{use:Option (Value->Sem Unit)}{Qf:Value->Shared->Prop}
 (hc:X.calm=true) (hN:X.N.Nodup) (I:bN X pins σ H s) (hi:PI X tg iter wi) (ok:Dk X.N X.env.scope scope own)
 (hg:∀ (s:Shared) (H:Hp) (C:Addr) (cl:List (Str×Addr)) (fp:List Addr),PG (X.blk s H scope (compEnvC scope cl C X.env) fp) tg g) (ht:∀ (s:Shared) (H:Hp) (C:Addr) (cl:List (Str×Addr)) (fp:List Addr),PTs (X.blk s H scope (compEnvC scope cl C X.env) fp) ifs tt)
 (he:∀ (s:Shared) (H:Hp) (C:Addr) (cl:List (Str×Addr)) (fp:List Addr),PE (X.blk s H scope (compEnvC scope cl C X.env) fp) elt te) (hs:∀ x,foldedSetIterable iter X.env x=pure x)
 (h:tLc wi g tt te (own.map (·.2)) σ H Q)
 (hRR:∀ D C s' m H',bN X pins σ H' s'->Q (.ref D) H'->s'.heap.Ns C m->Gp X pins H' C->compPost (model X.prog X.w) X.A X.xe use Qf (.ref D) C (.ok .next) s') :
 wpAny (model X.prog X.w) X.A (comprehension (.ListComp elt [⟨tg,iter,ifs,0⟩] scope pos) scope X.env pos' (newList []) false (eval iter X.env) use) Qf X.xe s:=by
 have hfree:∀ y∈scope.names,y.2=.free->∃ c,X.env.cells.lookup y.1=some c:=fun y hy e=>by
  rcases ok.free y hy e with k|k
  ·exact I.ok.has _ (.inl k)
  ·exact I.ok.has _ (.inr k)
 refine wpAny_comprehension_free (use:=use) rfl hs (Mh hfree) ok.kind (fun y hy e=>by rw [ok.uniq y hy,e])
  (eD (hi pins s σ H _ I h) fun xv s1 hx=>eD hx fun itv s2 h2=>?_)
 obtain ⟨it,fp,tn,J,H2,e,I2,T,st2,f2,q⟩:=h2
 subst e
 refine wpAny_newObj_type (Ke ?_) (by show 0<=sizeLine;decide)
 generalize hD:s2.heap.objs.size=D
 have hDn:H2 D=none:=I2.eE.fresh (Nat.le_of_eq hD)
 obtain ⟨W,⟨m0,w0⟩,turn⟩:=q D hDn
 generalize hs3:({ s2 with heap:=s2.heap.push { cls:=.type "list",data:=.seq ([]:List Value).toArray } }:Shared)=s3
 have I3:bN X pins σ (a6 H2 D (.lst [])) s3:=by
  rw [<-hs3]
  refine I2.laid (t':=s2.toks) (fun b o e=>Heap.get?_push_of_some _ e) (Nat.le_of_eq hD) ⟨Nat.zero_le _,[],0,.nil,?_⟩
  rw [<-hD]
  exact Heap.get?_push_size _ rfl
 have h3:s3.heap=s2.heap.push { cls:=.type "list",data:=.seq ([]:List Value).toArray }:=by rw [<-hs3]
 have sz:∀ b∈fp,b<s2.heap.objs.size:=fun b hb=>by
  obtain ⟨o,e,_⟩:=T.obj _ _ st2 b hb
  exact Heap.lt_size e
 have f3:∀ b∈fp,Gp X pins (a6 H2 D (.lst [])) b/\b<s3.heap.objs.size:=fun b hb=>by
  have hlt:=sz b hb
  refine ⟨⟨?_,(f2 b hb).2⟩,by rw [h3,Heap.size_push];exact Nat.lt_succ_of_lt hlt⟩
  rw [aJ (by rw [<-hD];exact Nat.ne_of_lt hlt)]
  exact (f2 b hb).1
 have st3:tn 0 s3.heap:=T.keep _ _ _ st2 fun b _ o e=>by rw [h3];exact Heap.get?_push_of_some _ e
 have I4:=Ky I3 ok hN f3
 have pg:=hg s3 (a6 H2 D (.lst [])) s3.heap.objs.size (cellsFrom (s3.heap.objs.size+1) scope.names (dX X.env.cells scope.names [])) fp
 have pt:=ht s3 (a6 H2 D (.lst [])) s3.heap.objs.size (cellsFrom (s3.heap.objs.size+1) scope.names (dX X.env.cells scope.names [])) fp
 have pe:=he s3 (a6 H2 D (.lst [])) s3.heap.objs.size (cellsFrom (s3.heap.objs.size+1) scope.names (dX X.env.cells scope.names [])) fp
 show codeAny _ _ (.compStart (.ListComp elt [⟨tg,iter,ifs,0⟩] scope pos) 0 (.ref it) (.ref D) (compEnvC scope (cellsFrom (s3.heap.objs.size+1) scope.names (dX X.env.cells scope.names [])) s3.heap.objs.size X.env)) (compPost (model X.prog X.w) X.A X.xe use Qf (.ref D) s3.heap.objs.size) { s3 with heap:=pushCells (s3.heap.push { cls:=.type "dict",data:=.dict #[] }) scope.names }
 have nfp:∀ b∈fp,(a6 H2 D (.lst [])) b=none:=fun b hb=>(f3 b hb).1.1
 generalize hce:compEnvC scope (cellsFrom (s3.heap.objs.size+1) scope.names (dX X.env.cells scope.names [])) s3.heap.objs.size X.env=ce at I4 pg pt pe ⊢
 have cL:ce.locals=s3.heap.objs.size:=by subst hce;rfl
 generalize hH3:a6 H2 D (.lst [])=H3 at I3 I4 pg pt pe w0 nfp f3
 generalize hs4:({ s3 with heap:=pushCells (s3.heap.push { cls:=.type "dict",data:=.dict #[] }) scope.names }:Shared)=s4 at I4 ⊢
 have st4:tn 0 s4.heap:=T.keep _ _ _ st3 fun b _ o e=>by rw [<-hs4];exact pushCells_keeps _ _ _ _ (Heap.get?_push_of_some _ e)
 have stat:∀ {σ':St} {H':Hp} {s':Shared},bN (X.blk s3 H3 scope ce fp) [] σ' H' s'->(∀ b∈fp,H' b=none)->∀ b∈fp,Gp (X.blk s3 H3 scope ce fp) [] H' b:=fun {σ' H' s'} I' hn b hb =>
  ⟨hn b hb,(I'.ok.exf b hb).1,I'.ok.JH b hb,.inl hb,fun x c e=>(I'.ok.exf b hb).2 x c e,fun p hp=>absurd (show p∈([]:List (Addr×Obj))++[] from hp) (by simp)⟩
 have loop:codeAny (model X.prog X.w) X.A (.compLoop (.ListComp elt [⟨tg,iter,ifs,0⟩] scope pos) 0 (.ref it) (.ref D) ce) (compPost (model X.prog X.w) X.A X.xe use Qf (.ref D) s3.heap.objs.size) s4:=by
  refine Ij (fun n s'=>∃ i H',bN (X.blk s3 H3 scope ce fp) [] (m_ σ (own.map (·.2))) H' s'/\tn i s'.heap/\(∀ b∈fp,H' b=none)/\W i n H') ?_ m0 ⟨0,H3,I4,st4,nfp,w0⟩
  rintro n s5 ⟨i,H5,I5,st5,n5,w5⟩
  rcases turn i n H5 w5 with ⟨stop,qq⟩|⟨go,Nx,hNx,step⟩
  ·have td:=T.done (X.blk s3 H3 scope ce fp) rfl rfl rfl hc i [] s5 _ H5 (fun _ _=>False) I5 (stat I5 n5) st5 stop
   refine Ny td fun r s6 ⟨hr,I6⟩=>?_
   subst hr
   have I7:bN X pins σ H5 s6:=I3.QE (ch:=fp) I6.os I6.base I6.eE I6.bare fun b hb=>⟨(f3 b hb).1.2.2.2.1,(f3 b hb).1.2.1,(f3 b hb).1.2.2.2.2.1,(f3 b hb).1.2.2.2.2.2⟩
   have nC:H5 s3.heap.objs.size=none:=by
    have z:H5 ce.locals=none:=I6.free
    rw [cL] at z
    exact z
   obtain ⟨m,hn,_⟩:=I6.loc
   have hn:s6.heap.Ns ce.locals m:=hn
   rw [cL] at hn
   exact hRR D s3.heap.objs.size s6 m H5 I7 qq hn (I3.OV (Nat.le_refl _) nC)
  ·have ti:=T.item (X.blk s3 H3 scope ce fp) rfl rfl rfl hc i [] s5 _ H5 (fun _ _=>False) I5 (stat I5 n5) st5 go
   refine Ny ti fun r s6 ⟨u,hr,h6⟩=>?_
   subst hr
   refine Ny h6 fun _ s7 ⟨x,H7,I7,r7,y7,st7,n7⟩=>?_
   have I7':=I7.pinned (stat I7 n7) (T.obj _ _ st7)
   refine Ny (pg _ s7 _ H7 x u _ I7' r7 (step x H7 y7)) fun _ s8 ⟨σ8,H8,I8,hw8,q8⟩=>?_
   refine Ny (pt _ s8 σ8 H8 _ I8 q8) fun b s9 ⟨H9,I9,q9⟩=>?_
   have fin:∀ {s':Shared} {H':Hp},bN (X.blk s3 H3 scope ce fp) ([]++Et fp s7.heap) σ8 H' s'->Nx H'->∃ m,m<n/\∃ i H',bN (X.blk s3 H3 scope ce fp) [] (m_ σ (own.map (·.2))) H' s'/\tn i s'.heap/\(∀ b∈fp,H' b=none)/\W i m H':=fun {s' H'} I' nx=>by
    obtain ⟨m',hm,w'⟩:=hNx H' nx
    have pin':∀ b∈fp,∀ o,s7.heap.get? b=some o->s'.heap.get? b=some o/\H' b=none:=fun b hb o e =>
     let z:=I'.pin (b,o) (List.mem_append_right _ (List.mem_append_right _ (zS hb e)))
     ⟨z.1,z.2.1⟩
    have hl:(m_ σ (own.map (·.2))).length=σ8.length:=by rw [<-hw8,uV]
    refine ⟨m',hm,i+1,H',(I'.Be (pins:=[])).weak hl (fun j v e=>?_),T.keep _ _ _ st7 fun b hb o e=>(pin' b hb o e).1,fun b hb=>?_,w'⟩
    ·rw [<-hw8] at e
     exact (Cf e).1
    ·obtain ⟨o,e,_⟩:=T.obj _ _ st7 b hb
     exact (pin' b hb o e).2
   cases b with
   | false =>
    simp only [Bool.false_eq_true,if_false] at q9 ⊢
    exact fin I9 q9
   | true =>
    simp only [if_true] at q9 ⊢
    refine Ny (pe _ s9 σ8 H9 _ I9 q9) fun z s10 ⟨yv,H10,I10,r10,acc,hD10,hz10,nx⟩=>?_
    exact RC (X:=X.blk s3 H3 scope ce fp) I10 hD10 hz10 r10 fun s11 I11=>fin I11 nx
 exact codeAny_compStart_list loop (T.self X.A 0 _ _ _ st4 loop)
theorem QB{elt tg iter:Expr}{ifs:List Expr}{scope:Scope}{own:List (Str×Nat)}{pos:Pos}{wi:TI}{g:TG}{tt:TT}{te:TE}(hc:X.calm=true)(hN:X.N.Nodup)(hi:PI X tg iter wi)(ok:Dk X.N X.env.scope scope own)
 (hg:∀ (s:Shared) (H:Hp) (C:Addr) (cl:List (Str×Addr)) (fp:List Addr),PG (X.blk s H scope (compEnvC scope cl C X.env) fp) tg g) (ht:∀ (s:Shared) (H:Hp) (C:Addr) (cl:List (Str×Addr)) (fp:List Addr),PTs (X.blk s H scope (compEnvC scope cl C X.env) fp) ifs tt)
 (he:∀ (s:Shared) (H:Hp) (C:Addr) (cl:List (Str×Addr)) (fp:List Addr),PE (X.blk s H scope (compEnvC scope cl C X.env) fp) elt te) (hs:∀ x,foldedSetIterable iter X.env x=pure x:=by intro _;rfl) :
 PE X (.ListComp elt [⟨tg,iter,ifs,0⟩] scope pos) (tLc wi g tt te (own.map (·.2))):=by
 intro pins s σ H Q I h
 rw [eval_ListComp]
 refine MB hc hN I hi ok hg ht he hs h fun D C s' m H' I' q hn f=>⟨m,hn,fun h'' sb=>?_⟩
 obtain ⟨f0,f1,f2,f3,f4,f5⟩:=f
 exact ⟨.ref D,H',I'.turned (t':=s'.toks) (fun b o hb e=>(sb.2 b hb).trans e) f0 f1 f3 f4 f5,rfl,q⟩
theorem O_{i:Nat}{y:Str}{py:Pos}{elt tg iter:Expr}{ifs:List Expr}{scope:Scope}{own:List (Str×Nat)}{pos spos:Pos}{wi:TI}{g:TG}{tt:TT}{te:TE}(hc:X.calm=true)(hN:X.N.Nodup)(hy:X.N[i]?=some y)(hyl:X.env.scope.names.lookup y=some .local)
 (hsw:swapsWith (.ListComp elt [⟨tg,iter,ifs,0⟩] scope pos) (some (.Name y py)) spos.line X.env=pure true) (hi:PI X tg iter wi) (ok:Dk X.N X.env.scope scope own)
 (hg:∀ (s:Shared) (H:Hp) (C:Addr) (cl:List (Str×Addr)) (fp:List Addr),PG (X.blk s H scope (compEnvC scope cl C X.env) fp) tg g) (ht:∀ (s:Shared) (H:Hp) (C:Addr) (cl:List (Str×Addr)) (fp:List Addr),PTs (X.blk s H scope (compEnvC scope cl C X.env) fp) ifs tt)
 (he:∀ (s:Shared) (H:Hp) (C:Addr) (cl:List (Str×Addr)) (fp:List Addr),PE (X.blk s H scope (compEnvC scope cl C X.env) fp) elt te) (hs:∀ x,foldedSetIterable iter X.env x=pure x:=by intro _;rfl) :
 PS X (.Assign [.Name y py] (.ListComp elt [⟨tg,iter,ifs,0⟩] scope pos) spos) (Rp (tLc wi g tt te (own.map (·.2))) (Kp i)):=by
 intro pins s σ H D I h
 rw [exec_Assign_Name_used _ _ _ _ hsw]
 refine wpAny_bind (wpAny_standAt (wpAny_bind ?_))
 show wpAny _ X.A (do let _ <-comprehension (.ListComp elt [⟨tg,iter,ifs,0⟩] scope pos) scope X.env (firstIterPos [⟨tg,iter,ifs,0⟩] pos) (newList []) false (eval iter X.env) (some (assign (.Name y py) X.env))) _ _ s
 have h:tLc wi g tt te (own.map (·.2)) σ H (fun x H1=>Kp i x σ H1 D.nx):=h
 refine wpAny_bind (eD (MB (Qf:=fun _ s'=>SP X pins D .next s') hc hN I hi ok hg ht he hs h fun L C s' m H' I' q hn f=>?_) fun _ s' hq=>wpAny_pure (wpAny_pure hq))
 show wpAny _ _ (assign (.Name y py) X.env (.ref L)) _ _ _
 refine wpAny_assign_Name (HZ (v:=V.ref L) I' hN hy (.inl hyl) rfl (fun s2 I2 ⟨a,sb,ha⟩=>?_) (.inr hyl))
 obtain ⟨f0,f1,f2,f3,f4,f5⟩:=f
 have haC:C≠a:=by
  rcases ha with z|z
  ·rw [z];exact f1
  ·exact fun e=>f4 y a z e.symm
 refine ⟨m,hn.sameBut sb haC,fun h3 sb3=>?_⟩
 exact ⟨_,H',I2.turned (t':=s2.toks) (fun b o hb e=>(sb3.2 b hb).trans e) f0 f1 f3 f4 f5,q⟩
theorem Qv{elt:Expr}{gs:List Comprehension}{scope:Scope}{pos py:Pos}{y:Str}{l:Nat}{env:Env}(hk:env.scope.kind=.function)(hy:env.scope.names.lookup y=some .local)(hl:(py.line==pos.line)=true)
 (ha:(scope.names.any fun (n,k)=>n==y&&(k==.local||k==.cell))=false):swapsWith (.ListComp elt gs scope pos) (some (.Name y py)) l env=pure true:=by
 have ky:env.kindOf y=some .local:=hy
 have hb:env.blockKind=.function:=by unfold Env.blockKind;rw [hk];rfl
 unfold swapsWith
 simp only [hb,ky,ha,Expr.pos,hl]
 rfl
end
theorem Mu{K:Frag}{a:Addr}{xs:List V}{g:TG}{tt:TT}{te:TE}{vs:List Nat}{σ:St}{H1:Hp}{D:Addr}{Qd:Hp->Prop}(Pv:Nat->Hp->Prop)(h0:Pv 0 (a6 H1 D (.lst [])))(hl:∀ i H,i<=xs.length->Pv i H->cT K H a xs)
 (hs:∀ i x H,xs[i]?=some x->Pv i H->g x (m_ σ vs) H fun σ2 H2=>m_ σ2 vs=m_ σ vs/\tt σ2 H2 fun b H3 =>
  if b=true then te σ2 H3 fun y H4=>∃ acc,H4 D=some (.lst acc)/\acc.length<sizeLine/\Pv (i+1) (a6 H4 D (.lst (acc++[y]))) else Pv (i+1) H3) (hd:∀ H,Pv xs.length H->Qd H) :
 ∃ W:Nat->Nat->Hp->Prop,(∃ m,W 0 m (a6 H1 D (.lst [])))/\∀ i m H,W i m H →
  ((
   Itl K a).stop i H/\Qd H)\/((Itl K a).go i H/\∃ Nx:Hp->Prop,(∀ H',Nx H'->∃ m',m'<m/\W (i+1) m' H')/\∀ x H',(Itl K a).yld i H x H'->g x (m_ σ vs) H' fun σ2 H2=>m_ σ2 vs=m_ σ vs/\tt σ2 H2 fun b H3 =>
   if b=true then te σ2 H3 fun y H4=>∃ acc,H4 D=some (.lst acc)/\acc.length<sizeLine/\Nx (a6 H4 D (.lst (acc++[y]))) else Nx H3):=by
 refine ⟨fun i m H=>m=xs.length - i/\i<=xs.length/\Pv i H,⟨xs.length,by simp,Nat.zero_le _,h0⟩,?_⟩
 rintro i m H ⟨rfl,hi,p⟩
 have q:=hl i H hi p
 by_cases hlt:i<xs.length
 ·refine .inr ⟨⟨xs,xs[i],q,by simp [hlt]⟩,Pv (i+1),fun H' p'=>⟨xs.length - (i+1),by omega,rfl,hlt,p'⟩,fun x H' y=>?_⟩
  obtain ⟨e,y⟩:=y
  subst e
  exact hs i x _ (y xs q) p
 ·have e:i=xs.length:=by omega
  subst e
  exact .inl ⟨⟨xs,q,Nat.le_refl _⟩,hd H p⟩
def Sj(N:List Str)(sc scope:Scope)(own:List (Str×Nat)):Bool :=
 (match scope.kind with|.function=>true|_=>false)&&(scope.names.all fun y=>decide (scope.names.lookup y.1=some y.2))&&(own.all fun p=>decide (N[p.2]?=some p.1)) &&
  (scope.names.all fun y=>match y.2 with
   | .free=>(match sc.names.lookup y.1 with|some .cell=>true|some .free=>true|_=>false)
   | .local=>decide (y.1∈own.map (·.1))||decide (y.1∉N)
   | .cell=>decide (y.1∈own.map (·.1))||decide (y.1∉N)
   | _=>true)
theorem FV{N:List Str}{sc scope:Scope}{own:List (Str×Nat)}(h:Sj N sc scope own=true):Dk N sc scope own:=by
 unfold Sj at h
 simp only [Bool.and_eq_true,all_eq_true,decide_eq_true_eq] at h
 obtain ⟨⟨⟨h1,h2⟩,h3⟩,h4⟩:=h
 refine ⟨?_,h2,h3,fun y hy e=>?_,fun y hy e=>?_⟩
 ·split at h1
  ·assumption
  ·cases h1
 ·have q:=h4 y hy
  simp only [e] at q
  split at q<;>first|exact .inl (by assumption)|exact .inr (by assumption)|cases q
 ·have q:=h4 y hy
  rcases e with e|e<;>(simp only [e,Bool.or_eq_true,decide_eq_true_eq] at q;exact q)
section
variable {κ:Type}[DecidableEq κ]
def eM(kvs:List (κ×V))(k:κ):Option V:=(kvs.find? fun kv=>decide (kv.1=k)).map (·.2)
def nW(kvs:List (κ×V))(k:κ)(v:V):List (κ×V) :=
 if (kvs.any fun kv=>decide (kv.1=k))=true then kvs.map (fun kv=>if kv.1=k then (kv.1,v) else kv) else kvs++[(k,v)]
theorem eY{p:κ×V}{r:List (κ×V)}{k:κ}(e:p.1=k):eM (p::r) k=some p.2:=by simp [eM,List.find?_cons,e]
theorem eI{p:κ×V}{r:List (κ×V)}{k:κ}(e:¬ p.1=k):eM (p::r) k=eM r k:=by simp [eM,List.find?_cons,e]
theorem qZ(k:κ):∀ kvs:List (κ×V),(kvs.any fun kv=>decide (kv.1=k))=(eM kvs k).isSome
 | []=>rfl
 | p::r=>by
  rw [List.any_cons]
  by_cases e:p.1=k
  ·simp only [eY e,decide_eq_true e,Bool.true_or,Option.isSome_some]
  ·rw [eI e,decide_eq_false e,Bool.false_or];exact qZ k r
theorem K4(k j:κ)(y:V):∀ kvs:List (κ×V),eM (kvs.map fun kv=>if kv.1=k then (kv.1,y) else kv) j=(eM kvs j).map fun x=>if j=k then y else x
 | []=>rfl
 | p::r=>by
  have ih:=K4 k j y r
  rw [map_cons]
  by_cases h:p.1=k
  ·rw [if_pos h]
   by_cases e:p.1=j
   ·rw [eY (p:=(p.1,y)) e,eY e,Option.map_some,if_pos (e.symm.trans h)]
   ·rw [eI (p:=(p.1,y)) e,eI e,ih]
  ·rw [if_neg h]
   by_cases e:p.1=j
   ·rw [eY (p:=p) e,eY e,Option.map_some,if_neg (fun z=>h (e.trans z))]
   ·rw [eI (p:=p) e,eI e,ih]
theorem Hg(k j:κ)(y:V):∀ kvs:List (κ×V),eM kvs k=none->eM (kvs++[(k,y)]) j=if j=k then some y else eM kvs j
 | [],_=>by
  by_cases e:k=j
  ·rw [if_pos e.symm];exact eY (p:=(k,y)) e
  ·rw [if_neg (fun z=>e z.symm)];exact eI (p:=(k,y)) e
 | p::r,hn=>by
  rw [List.cons_append]
  have hk:¬ p.1=k:=fun z=>by rw [eY z] at hn;cases hn
  rw [eI hk] at hn
  have ih:=Hg k j y r hn
  by_cases e:p.1=j
  ·rw [eY e,eY e,if_neg (fun z=>hk (e.trans z))]
  ·rw [eI e,eI e,ih]
theorem KP(kvs:List (κ×V))(k j:κ)(y:V):eM (nW kvs k y) j=if j=k then some y else eM kvs j:=by
 unfold nW
 by_cases a:(kvs.any fun kv=>decide (kv.1=k))=true
 ·rw [if_pos a,K4]
  rw [qZ] at a
  by_cases e:j=k
  ·obtain ⟨x,hx⟩:=Option.isSome_iff_exists.mp a
   rw [if_pos e,e,hx,Option.map_some,if_pos rfl]
  ·rw [if_neg e]
   cases eM kvs j with
   | none=>rfl
   | some x=>rw [Option.map_some,if_neg e]
 ·rw [if_neg a]
  refine Hg k j y kvs ?_
  rw [qZ] at a
  cases q:eM kvs k with
  | none=>rfl
  | some x=>rw [q] at a;exact (a rfl).elim
theorem pM(kvs:List (κ×V))(k:κ)(v:V):(nW kvs k v).length<=kvs.length+1:=by
 unfold nW
 split
 ·rw [length_map];omega
 ·rw [length_append,length_cons,List.length_nil];omega
theorem xG.qS{o:Option V}{u:Option Value}(r:xG o u):o.isSome=u.isSome:=by
 cases o with
 | none=>cases u with
  | none=>rfl
  | some _=>exact (show False from r).elim
 | some _=>cases u with
  | none=>exact (show False from r).elim
  | some _=>rfl
theorem KV.val{kvs:List (κ×V)}{vs:List (κ×Value)}(r:KV kvs vs)(k:κ):xG (eM kvs k) (valueAt vs k):=by
 unfold KV at r
 induction r with
 | nil=>exact True.intro
 | @cons p q ps qs h t ih =>
  obtain ⟨h1,h2⟩:=h
  by_cases e:p.1=k
  ·have e':q.1=k:=h1.symm.trans e
   have b:valueAt (q::qs) k=some q.2:=by simp [valueAt,List.find?_cons,e']
   rw [eY e,b];exact h2
  ·have e':¬ q.1=k:=fun z=>e (h1.trans z)
   have b:valueAt (q::qs) k=valueAt qs k:=by simp [valueAt,List.find?_cons,e']
   rw [eI e,b];exact ih
theorem KV.any{kvs:List (κ×V)}{vs:List (κ×Value)}(r:KV kvs vs)(k:κ):(kvs.any fun kv=>decide (kv.1=k))=vs.any fun kv=>decide (kv.1=k):=by
 unfold KV at r
 induction r with
 | nil=>rfl
 | cons h t ih=>rw [List.any_cons,List.any_cons,ih,h.1]
theorem KV.Q1{kvs:List (κ×V)}{vs:List (κ×Value)}(r:KV kvs vs)(k:κ){y:V}{u:Value}(ry:cJ y u) :
 KV (kvs.map fun kv=>if kv.1=k then (kv.1,y) else kv) (vs.map fun kv=>if kv.1=k then (kv.1,u) else kv):=by
 unfold KV at r ⊢
 induction r with
 | nil=>exact .nil
 | @cons p q ps qs h t ih =>
  rw [map_cons,map_cons]
  refine .cons ?_ ih
  obtain ⟨h1,h2⟩:=h
  by_cases e:p.1=k
  ·rw [if_pos e,if_pos (h1.symm.trans e)];exact ⟨h1,ry⟩
  ·rw [if_neg e,if_neg (fun z=>e (h1.trans z))];exact ⟨h1,h2⟩
theorem KV.put{kvs:List (κ×V)}{vs:List (κ×Value)}(r:KV kvs vs)(k:κ){y:V}{u:Value}(ry:cJ y u):KV (nW kvs k y) (stored vs k u):=by
 unfold nW stored
 rw [r.any k]
 by_cases e:(vs.any fun kv=>decide (kv.1=k))=true
 ·rw [if_pos e,if_pos e];exact r.Q1 k ry
 ·rw [if_neg e,if_neg e];exact Paired.snoc r ⟨rfl,ry⟩
theorem KV.keys{kvs:List (κ×V)}{vs:List (κ×Value)}(r:KV kvs vs):kvs.map (·.1)=vs.map (·.1):=by
 unfold KV at r
 induction r with
 | nil=>rfl
 | cons h t ih=>rw [map_cons,map_cons,ih,h.1]
theorem KV.length{kvs:List (κ×V)}{vs:List (κ×Value)}(r:KV kvs vs):kvs.length=vs.length:=Paired.length r
end
theorem HK{P:Program}{w:World}{k:fY}{u:Value}(r:cJ (kV k) u):(dY P w).is k u=true:=by
 cases k with
 | inl i=>obtain ⟨t,e⟩:=(show ∃ t,u=Value.int i t from r);subst e;exact KQ P w i t
 | inr x=>obtain ⟨t,e⟩:=(show ∃ t,u=Value.str x t from r);subst e;exact KL P w x t
theorem Hx{P:Program}{w:World}:∀ {ks:List fY} {us:List Value},b9 (ks.map kV) us->ItemsAre (dY P w) ks us
 | [],_,r=>by rw [List.map_nil] at r;cases r;exact .nil
 | k::ks,_,r=>by
  rw [map_cons] at r
  cases r with
  | cons h t=>exact .cons (HK h) (Hx t)
abbrev KT(H:Hp):List (List fY×V)->List (List fY×Addr×Value)->Prop:=Paired fun p q=>p.1=q.1/\H q.2.1=some (.tup (p.1.map kV))/\cJ p.2 q.2.2
theorem KT.val{H:Hp}{kvs:List (List fY×V)}{xs:List (List fY×Addr×Value)}(r:KT H kvs xs)(k:List fY):xG (eM kvs k) ((atKey xs k).map (·.2)):=by
 induction r with
 | nil=>exact True.intro
 | @cons p q ps qs h t ih =>
  obtain ⟨h1,_,h2⟩:=h
  by_cases e:p.1=k
  ·have e':q.1=k:=h1.symm.trans e
   have b:atKey (q::qs) k=some q.2:=by simp [atKey,List.find?_cons,e']
   rw [eY e,b];exact h2
  ·have e':¬ q.1=k:=fun z=>e (h1.trans z)
   have b:atKey (q::qs) k=atKey qs k:=by simp [atKey,List.find?_cons,e']
   rw [eI e,b];exact ih
theorem KT.Q1{H:Hp}{kvs:List (List fY×V)}{xs:List (List fY×Addr×Value)}(r:KT H kvs xs)(k:List fY){y:V}{u:Value}(ry:cJ y u) :
 KT H (kvs.map fun kv=>if kv.1=k then (kv.1,y) else kv) (xs.map (putAt k u)):=by
 induction r with
 | nil=>exact .nil
 | @cons p q ps qs h t ih =>
  rw [map_cons,map_cons]
  refine .cons ?_ ih
  obtain ⟨h1,h2,h3⟩:=h
  unfold putAt
  by_cases e:p.1=k
  ·rw [if_pos e,if_pos (h1.symm.trans e)];exact ⟨h1,h2,ry⟩
  ·rw [if_neg e,if_neg (fun z=>e (h1.trans z))];exact ⟨h1,h2,h3⟩
theorem KT.put{H:Hp}{kvs:List (List fY×V)}{xs:List (List fY×Addr×Value)}(r:KT H kvs xs)(k:List fY){b:Addr}{y:V}{u:Value}(hb:H b=some (.tup (k.map kV)))(ry:cJ y u) :
 KT H (nW kvs k y) (storedH xs k b u):=by
 have e:(kvs.any fun kv=>decide (kv.1=k))=(atKey xs k).isSome:=by
  rw [qZ,(r.val k).qS,Option.isSome_map]
 unfold nW storedH
 rw [e]
 by_cases q:(atKey xs k).isSome=true
 ·rw [if_pos q,if_pos q];exact r.Q1 k ry
 ·rw [if_neg q,if_neg q];exact Paired.snoc r ⟨rfl,hb,ry⟩
theorem KT.keeps{H H':Hp}{kvs:List (List fY×V)}{xs:List (List fY×Addr×Value)}(r:KT H kvs xs)(ht:∀ b ys,H b=some (.tup ys)->H' b=some (.tup ys)):KT H' kvs xs :=
 Paired.RB r fun _ _ z=>⟨z.1,ht _ _ z.2.1,z.2.2⟩
section
variable {P:Program}{w:World}{H:Hp}{h:Heap}{a:Addr}
theorem Qy{u:HO}(ok:sS P w H h)(e:Rd H a u):iF P w H h a u:=e.ok ok
theorem Hy{kvs:List (fY×V)}(ok:sS P w H h)(e:Rd H a (.dK kvs)):kvs.length<=sizeLine/\(a==sysModules)=false/\∃ vs,KV kvs vs/\h.DictOf (dY P w) a vs :=
 show iF P w H h a (.dK kvs) from Qy ok e
theorem QG{kvs:List (fY×V)}(ok:sS P w H h)(e:H a=some (.dK kvs)):kvs.length<=sizeLine/\(a==sysModules)=false/\∃ vs,KV kvs vs/\h.DictOf (dY P w) a vs:=Hy ok (.inl e)
theorem EC{ks:List fY}(ok:sS P w H h)(e:H a=some (.tup (ks.map kV))):(tupleKind (dY P w)).is h ks a:=by
 obtain ⟨_,its,r,o,h1,h2,n,h3⟩:=(show iF P w H h a (.tup (ks.map kV)) from ok a _ e)
 exact ⟨o,its.toArray,n,h1,h2,h3,by simpa using Hx r⟩
theorem HS{kvs:List (List fY×V)}(ok:sS P w H h)(e:Rd H a (.dT kvs)):kvs.length<=sizeLine/\(a==sysModules)=false ∧
 ∃ xs,KT H kvs xs/\h.DictOfH (tupleKind (dY P w)) a xs:=by
 obtain ⟨z,y,xs,r,o,es,ep,h1,h2,h3,h4,h5⟩:=(show iF P w H h a (.dT kvs) from Qy ok e)
 refine ⟨z,y,xs,r,o,es,ep,h1,h2,h3,h4,fun x hx=>?_,h5⟩
 have all:∀ {l:List (List fY×V)} {m:List (List fY×Addr×Value)},KT H l m->∀ x∈m,(tupleKind (dY P w)).is h x.1 x.2.1:=by
  intro l m q
  induction q with
  | nil=>intro x hx;exact nomatch hx
  | @cons p q ps qs hq t ih =>
   intro x hx
   rcases mem_cons.mp hx with e|hx
   ·subst e
    exact EC ok (by rw [<-hq.1];exact hq.2.1)
   ·exact ih x hx
 exact all r x hx
theorem RM{kvs:List (List fY×V)}(ok:sS P w H h)(e:H a=some (.dT kvs)):kvs.length<=sizeLine/\(a==sysModules)=false ∧
 ∃ xs,KT H kvs xs/\h.DictOfH (tupleKind (dY P w)) a xs:=HS ok (.inl e)
end
def As(H:Hp)(a:Addr)(y:V)(r:Option V):Prop :=
 (∃ kvs k,Rd H a (.dK kvs)/\y=kV k/\r=eM kvs k)\/∃ kvs k b,Rd H a (.dT kvs)/\y=.ref b/\H b=some (.tup (k.map kV))/\r=eM kvs k
def NX(H:Hp)(a:Addr)(y v:V)(H':Hp):Prop :=
 (∃ kvs k,H a=some (.dK kvs)/\y=kV k/\kvs.length<sizeLine/\H'=a6 H a (.dK (nW kvs k v))) ∨
 ∃ kvs k b,H a=some (.dT kvs)/\y=.ref b/\H b=some (.tup (k.map kV))/\kvs.length<sizeLine/\H'=a6 H a (.dT (nW kvs k v))
theorem As.k{H:Hp}{a:Addr}{kvs:List (fY×V)}{k:fY}(e:H a=some (.dK kvs)):As H a (kV k) (eM kvs k):=.inl ⟨kvs,k,.inl e,rfl,rfl⟩
theorem NX.k{H:Hp}{a:Addr}{kvs:List (fY×V)}{k:fY}{v:V}(e:H a=some (.dK kvs))(hl:kvs.length<sizeLine):NX H a (kV k) v (a6 H a (.dK (nW kvs k v))):=.inl ⟨kvs,k,e,rfl,hl,rfl⟩
section
variable {X:Cx}{pins:List (Addr×Obj)}{σ:St}{H:Hp}{s:Shared}{a:Addr}{y v:V}{u r:Value}{o:Option V}{A:Around}{E:Value->Shared->Prop}
theorem bN.big(I:bN X pins σ H s):sysModules<s.heap.objs.size:=by
 have h:mainGlobals<s.heap.objs.size:=(I.mod.glob.keeps I.bk).lt
 exact Nat.lt_trans (by decide) h
theorem NK{Q:Value->Shared->Prop}(hu:A.units+1<cLine)(I:bN X pins σ H s)(g:As H a y (some v))(ry:cJ y u)(h:∀ w' s',bN X pins σ H s'->cJ v w'->Q w' s') :
 wpAny (model X.prog X.w) A (getItem (.ref a) u) Q E s:=by
 rcases g with ⟨kvs,k,e,ey,l⟩|⟨kvs,k,b,e,ey,eb,l⟩
 ·subst ey
  obtain ⟨z,hd,vs,rel,dd⟩:=Hy I.eE e
  obtain ⟨w',hw,rw'⟩:=xG.some_of (v:=v) (o:=valueAt vs k) (by rw [l];exact rel.val k)
  exact wpAny_getItem_of (HK ry) dd.mapOf hw (h w' _ (I.tok _) rw')
 ·subst ey
  cases (show u=Value.ref b from ry)
  obtain ⟨z,hd,xs,rel,dd⟩:=HS I.eE e
  obtain ⟨w',hw,rw'⟩:=xG.some_of (v:=v) (o:=(atKey xs k).map (·.2)) (by rw [l];exact rel.val k)
  obtain ⟨p,hp,hp2⟩:=Option.map_eq_some_iff.mp hw
  refine wpAny_getItem_heap (tupleKind_room_in1 hu) (EC I.eE eb) dd hp ?_
  rw [hp2]
  exact h w' _ (I.tok _) rw'
theorem SU{Q:Value->Shared->Prop}(hu:A.units+1<cLine)(I:bN X pins σ H s)(g:As H a y o)(ry:cJ y u)(h:∀ s',bN X pins σ H s'->Q (.bool o.isSome) s') :
 wpAny (model X.prog X.w) A (compareOp .In u (.ref a)) Q E s:=by
 rcases g with ⟨kvs,k,e,ey,l⟩|⟨kvs,k,b,e,ey,eb,l⟩
 ·subst ey
  obtain ⟨z,hd,vs,rel,dd⟩:=Hy I.eE e
  refine wpAny_in_of (HK ry) hd dd.mapOf ?_
  rw [<-(rel.val k).qS,<-l]
  exact h _ (I.tok _)
 ·subst ey
  cases (show u=Value.ref b from ry)
  obtain ⟨z,hd,xs,rel,dd⟩:=HS I.eE e
  refine wpAny_in_heap (tupleKind_room_in1 hu) (EC I.eE eb) hd dd ?_
  have q:=(rel.val k).qS
  rw [Option.isSome_map] at q
  rw [<-q,<-l]
  exact h _ (I.tok _)
theorem PR{Q:Value->Shared->Prop}(hu:A.units+1<cLine)(I:bN X pins σ H s)(g:As H a y o)(ry:cJ y u)(h:∀ s',bN X pins σ H s'->Q (.bool (!o.isSome)) s') :
 wpAny (model X.prog X.w) A (compareOp .NotIn u (.ref a)) Q E s:=by
 rcases g with ⟨kvs,k,e,ey,l⟩|⟨kvs,k,b,e,ey,eb,l⟩
 ·subst ey
  obtain ⟨z,hd,vs,rel,dd⟩:=Hy I.eE e
  refine wpAny_notIn_of (HK ry) hd dd.mapOf ?_
  rw [<-(rel.val k).qS,<-l]
  exact h _ (I.tok _)
 ·subst ey
  cases (show u=Value.ref b from ry)
  obtain ⟨z,hd,xs,rel,dd⟩:=HS I.eE e
  refine wpAny_notIn_heap (tupleKind_room_in1 hu) (EC I.eE eb) hd dd ?_
  have q:=(rel.val k).qS
  rw [Option.isSome_map] at q
  rw [<-q,<-l]
  exact h _ (I.tok _)
theorem Ip{h':Heap}{t':Nat}{ob:HO}(I:bN X pins σ H s)(mu:Mut (H a))(hs:Heap.SameBut a s.heap h')(he:∃ q,h'.get? a=some q)(new:iF X.prog X.w (a6 H a ob) h' a ob) :
 bN X pins σ (a6 H a ob) { s with heap:=h',toks:=t' } :=
 I.write (x:=a) (e:=a) mu (.inl rfl) (fun b q hb z=>(hs.2 b hb).trans z) he new
theorem OZ{P:Program}{w:World}{H':Hp}{h':Heap}{kvs:List (fY×V)}{vs:List (fY×Value)}(z:kvs.length<=sizeLine)(hd:(a==sysModules)=false)(rel:KV kvs vs)(dd:h'.DictOf (dY P w) a vs) :
 iF P w H' h' a (.dK kvs):=⟨z,hd,vs,rel,dd⟩
theorem Nv{H':Hp}{Q:Unit->Shared->Prop}(hu:A.units+1<cLine)(I:bN X pins σ H s)(g:NX H a y v H')(ry:cJ y u)(rv:cJ v r)(h:∀ s',bN X pins σ H' s'->Q () s') :
 wpAny (model X.prog X.w) A (setItem (.ref a) u r) Q E s:=by
 rcases g with ⟨kvs,k,e,ey,l,eH⟩|⟨kvs,k,b,e,ey,eb,l,eH⟩
 ·subst ey eH
  obtain ⟨z,hd,vs,rel,dd⟩:=QG I.eE e
  have hz:vs.length<=sizeLine:=by rw [<-rel.length];exact z
  have hl:(nW kvs k v).length<=sizeLine:=by have:=pM kvs k v;omega
  refine wpAny_setItem_pairs (hsz:=hz) (HK ry) dd fun h' dd' hs=>h _ ?_
  have he:∃ q,h'.get? a=some q:=let ⟨q,_,_,hq,_⟩:=dd';⟨q,hq⟩
  exact Ip I (by rw [e];exact True.intro) hs he (OZ hl hd (rel.put k rv) dd')
 ·subst ey eH
  cases (show u=Value.ref b from ry)
  obtain ⟨z,hd,xs,rel,dd⟩:=RM I.eE e
  have hz:xs.length<=sizeLine:=by rw [<-Paired.length rel];exact z
  have hl:(nW kvs k v).length<=sizeLine:=by have:=pM kvs k v;omega
  refine wpAny_setItem_heap (hsz:=hz) (tupleKind_room_in1 hu) (EC I.eE eb) dd fun h' dd' hs=>h _ ?_
  obtain ⟨q,es,ep,hq,h2,h3,h4,_,h5⟩:=dd'
  refine Ip I (by rw [e];exact True.intro) hs ⟨q,hq⟩ ⟨hl,hd,_,(rel.put k eb rv).keeps fun c ys ec=>?_,q,es,ep,hq,h2,h3,h4,h5⟩
  rw [aJ (cX ec e (fun z=>nomatch z))]
  exact ec
end
def RO(i:Expr):Prop:=∀ ov iv,subscripted i false ov iv=operate [ov,iv] (getItem ov iv)
theorem Pt{prog:Program}{w:World}{A:Around}{E:Value->Shared->Prop}{s:Shared}{env:Env}{value slice:Expr}{pos:Pos}{T id:String}{Q:Value->Shared->Prop}
 (hl:typeLookup (.type T) "__getitem__"=pure (some (.builtin id))) (hs:RO slice)
 (h:wpAny (model prog w) A (eval value env) (fun o s₁=>wpAny (model prog w) A (eval slice env) (fun i s₂=>s₂.TypeIs o T/\wpAny (model prog w) A (getItem o i) Q E s₂) E s₁) E s) :
 wpAny (model prog w) A (eval (.Subscript value slice pos) env) Q E s:=by
 refine Subscript_ (wpAny_mono h (fun o s₁ h₁=>wpAny_mono h₁ (fun i s₂ h₂=>?_) fun _ _ x=>x) fun _ _ x=>x)
 obtain ⟨hT,h₂⟩:=h₂
 unfold subscriptTail
 refine wpAny_bind ?_
 rw [getitemInPython_of_ne hT.not_modules]
 refine wpAny_bind (wpAny_specialOf hT hl ?_)
 have fin:wpAny (model prog w) A (subscripted slice false o i) (fun r s₃=>wpAny (model prog w) A (letTemporaryGo value o r >>= fun _=>pure r) Q E s₃) E s₂:=by
  rw [hs o i]
  exact wpAny_operating (wpAny_mono h₂ (fun r s₃ h₃=>wpAny_bind (wpAny_letTemporaryGo (wpAny_pure h₃))) fun _ _ x=>x)
 first
  | exact wpAny_pure (wpAny_bind fin)
  | exact wpAny_bind (wpAny_pure (wpAny_bind fin))
  | exact wpAny_bind fin
theorem Km{X:Cx}{pins:List (Addr×Obj)}{σ:St}{H:Hp}{s:Shared}{a:Addr}{y:V}{o:Option V}(I:bN X pins σ H s)(g:As H a y o):s.TypeIs (.ref a) "dict":=by
 rcases g with ⟨kvs,k,e,_,_⟩|⟨kvs,k,b,e,_,_,_⟩
 ·obtain ⟨_,_,vs,_,dd⟩:=Hy I.eE e
  exact dd.typeIs
 ·obtain ⟨_,_,xs,_,dd⟩:=HS I.eE e
  exact dd.typeIs
inductive xDG(x y:V)(H:Hp)(Q:V->Prop):Prop
 | mk:∀ a v,x=.ref a->As H a y (some v)->Q v->xDG x y H Q
def RY(td ty:TE):TE:=fun σ H Q=>td σ H fun x H1=>ty σ H1 fun y H2=>xDG x y H2 fun v=>Q v H2
def SK(ty td:TE):TE:=fun σ H Q=>ty σ H fun y H1=>td σ H1 fun x H2=>∃ a o,x=.ref a/\As H2 a y o/\Q (.bl o.isSome) H2
def PU(ty td:TE):TE:=fun σ H Q=>ty σ H fun y H1=>td σ H1 fun x H2=>∃ a o,x=.ref a/\As H2 a y o/\Q (.bl (!o.isSome)) H2
def R_(td ty tv:TE):TS:=fun D σ H=>tv σ H fun v H1=>td σ H1 fun x H2=>ty σ H2 fun y H3=>∃ a H4,x=.ref a/\NX H3 a y v H4/\D.nx σ H4
section
variable {X:Cx}{o i e value:Expr}{pos pos' tpos:Pos}{td ty tv:TE}
theorem D_(hu:X.A.units+1<cLine)(ho:PE X o td)(hi:PE X i ty)(hs:RO i):PE X (.Subscript o i pos) (RY td ty):=by
 intro pins s σ H Q I h
 refine Pt PySem.F.slot_dict_getitem.lookup hs (eD (ho pins s σ H _ I h) fun u s1 ⟨x,H1,I1,rx,q1⟩=>eD (hi pins s1 σ H1 _ I1 q1) fun iv s2 ⟨y,H2,I2,ry,a,v,ex,g,q2⟩=>?_)
 subst ex
 obtain rfl:u=Value.ref a:=rx
 exact ⟨Km I2 g,NK hu I2 g ry fun w' s3 I3 rw'=>⟨v,H2,I3,rw',q2⟩⟩
theorem Rr(hu:X.A.units+1<cLine)(hi:PE X i ty)(ho:PE X o td):PC X .In i o (SK ty td):=by
 intro pins s σ H Q I h
 refine eD (hi pins s σ H _ I h) fun iv s1 ⟨y,H1,I1,ry,q1⟩=>eD (ho pins s1 σ H1 _ I1 q1) fun u s2 ⟨x,H2,I2,rx,a,ov,ex,g,q2⟩=>?_
 subst ex
 obtain rfl:u=Value.ref a:=rx
 exact SU hu I2 g ry fun s3 I3=>⟨.bl ov.isSome,H2,I3,rfl,q2⟩
theorem Ng(hu:X.A.units+1<cLine)(hi:PE X i ty)(ho:PE X o td):PC X .NotIn i o (PU ty td):=by
 intro pins s σ H Q I h
 refine eD (hi pins s σ H _ I h) fun iv s1 ⟨y,H1,I1,ry,q1⟩=>eD (ho pins s1 σ H1 _ I1 q1) fun u s2 ⟨x,H2,I2,rx,a,ov,ex,g,q2⟩=>?_
 subst ex
 obtain rfl:u=Value.ref a:=rx
 exact PR hu I2 g ry fun s3 I3=>⟨.bl (!ov.isSome),H2,I3,rfl,q2⟩
theorem ML(hu:X.A.units+1<cLine)(ho:PE X o td)(hi:PE X i ty)(hv:PE X value tv)(hs:swapsWith value (some (.Subscript o i pos')) pos.line X.env=pure false) :
 PS X (.Assign [.Subscript o i pos'] value pos) (R_ td ty tv):=by
 intro pins s σ H D I h
 refine wpAny_Assign_Subscript (eD (hv pins s σ H _ I h) fun r s1 ⟨v,H1,I1,rv,q1⟩=>eD (ho pins s1 σ H1 _ I1 q1) fun u s2 ⟨x,H2,I2,rx,q2⟩=>eD (hi pins s2 σ H2 _ I2 q2) fun iv s3 ⟨y,H3,I3,ry,a,H4,ex,g,q3⟩=>?_) hs
 subst ex
 obtain rfl:u=Value.ref a:=rx
 exact Nv hu I3 g ry rv fun s4 I4=>⟨σ,H4,I4,q3⟩
end
theorem Oj{P:Program}{w:World}{H:Hp}(h:Heap)(hb:sysModules<h.objs.size):iF P w H (h.push { cls:=.type "dict",data:=.dict #[] }) h.objs.size (.dK []) :=
 ⟨Nat.zero_le _,beq_eq_false_iff_ne.mpr (Ne.symm (Nat.ne_of_lt hb)),[],.nil,Heap.DictOf.new h⟩
def Q3:TE:=fun _ H Q=>∀ p,H p=none->Q (.ref p) (a6 H p (.dK []))
section
variable {X:Cx}{pos:Pos}
theorem Br:PE X (.Dict [] [] pos) Q3:=fun pins s σ H Q I h =>
 wpAny_Dict_empty ⟨.ref s.heap.objs.size,_,I.laid (a:=s.heap.objs.size) (o:=.dK []) (t':=s.toks) (fun _ _ q=>Heap.get?_push_of_some _ q) (Nat.le_refl _) (Oj s.heap I.big),rfl,h _ (I.eE.fresh (Nat.le_refl _))⟩
end
structure M2(X:Cx)(o:Expr)(m:Str)(apos:Pos)(e f:Expr)(cpos:Pos):Prop where
 base:attributeBase o m X.env (eval o X.env)=eval o X.env
 few:((backTo cpos (starEach [e,f] X.env)).all (fun x=>!x.1)&&(backToKw cpos (keywordEach [] X.env)).all (fun x=>x.1.isSome)
 &&decide (([e,f]:List Expr).length+([]:List Keyword).length+(if ([]:List Keyword).isEmpty then 0 else 1)<30))=true
 line:(apos.endLine==cpos.line)=true
 trees:backTo cpos (starEach [e,f] X.env)=[(false,eval e X.env),(false,eval f X.env)]
def IsD(H:Hp)(a:Addr):Prop:=(∃ kvs,Rd H a (.dK kvs))\/∃ kvs,Rd H a (.dT kvs)
theorem Ry{X:Cx}{pins:List (Addr×Obj)}{σ:St}{H:Hp}{s:Shared}{a:Addr}(I:bN X pins σ H s)(d:IsD H a) :
 s.TypeIs (.ref a) "dict"/\(∀ b,Value.ref a=.ref b->∃ ob,s.heap.get? b=some ob/\ob.dict=none)/\(a==sysModules)=false:=by
 rcases d with ⟨kvs,e⟩|⟨kvs,e⟩
 ·obtain ⟨_,hd,vs,_,dd⟩:=Hy I.eE e
  refine ⟨dd.typeIs,fun b q=>?_,hd⟩
  cases q
  obtain ⟨ob,_,_,h1,h2,_⟩:=dd
  exact ⟨ob,h1,h2.2.1⟩
 ·obtain ⟨_,hd,xs,_,dd⟩:=HS I.eE e
  refine ⟨dd.typeIs,fun b q=>?_,hd⟩
  cases q
  obtain ⟨ob,_,_,h1,h2,_⟩:=dd
  exact ⟨ob,h1,h2.2.1⟩
section
variable {X:Cx}{pins:List (Addr×Obj)}{σ:St}{H:Hp}{s:Shared}{h':Heap}
theorem bN.lock{d:Addr}{u:HO}(I:bN X pins σ H s)(h:H d=some u)(mu:Mut (some u)):∃ od,bN X pins σ (a6 H d (.mH od u)) s:=by
 have x:=I.eE d u h
 have ex:∃ od,s.heap.get? d=some od:=by
  cases u with
  | lst xs=>obtain ⟨_,_,_,_,e⟩:=x;exact ⟨_,e⟩
  | dK kvs=>obtain ⟨_,_,_,_,o,_,_,e,_⟩:=x;exact ⟨o,e⟩
  | dT kvs=>obtain ⟨_,_,_,_,o,_,_,e,_⟩:=x;exact ⟨o,e⟩
  | set S n=>obtain ⟨o,_,_,_,e,_⟩:=x;exact ⟨o,e⟩
  | ins C dx fs=>obtain ⟨_,_,_,e,_⟩:=x;exact ⟨_,e⟩
  | ext φ=>obtain ⟨_,⟨_,e⟩,_⟩:=x;exact ⟨_,e⟩
  | _=>exact False.elim mu
 obtain ⟨od,e⟩:=ex
 have new:iF X.prog X.w (a6 H d (.mH od u)) s.heap d (.mH od u):=by
  refine ⟨e,x.sE (fun b v _ q=>q) (fun b q=>?_) fun b xs q=>?_⟩
  ·rw [aJ (fun z=>by rw [z,h] at q;cases q;exact mu)];exact q
  ·rw [aJ (fun z=>by rw [z,h] at q;cases q;exact mu)];exact q
 exact ⟨od,I.write (x:=d) (e:=d) (t':=s.toks) (h':=s.heap) (by rw [h];exact mu) (.inl rfl) (fun b v _ q=>q) ⟨od,e⟩ new⟩
theorem bN.K0{d:Addr}{u:HO}(I:bN X pins σ H s)(h:H d=some u)(mu:Mut (some u)):∀ o' u',X.H_0 d≠some (.mH o' u'):=fun o' u' e=>by
 have q:=I.base.Ar d o' u' e
 rw [h] at q
 cases q
 exact mu
theorem bN.unlock{d:Addr}{od:Obj}{u:HO}(I:bN X pins σ H s)(h:H d=some (.mH od u))(hn:∀ o' u',X.H_0 d≠some (.mH o' u')):bN X pins σ (a6 H d u) s:=by
 have neH:∀ b o,H b=some o->(∀ o' u',o≠.mH o' u')->b≠d:=fun b o e hne z=>by
  rw [z,h] at e
  cases e
  exact hne _ _ rfl
 have neN:∀ b,H b=none->b≠d:=fun b e z=>by rw [z,h] at e;cases e
 refine ⟨I.ok,I.os,I.bare,⟨I.base.keep,I.base.slot,fun b o e n hx=>?_,I.base.there,fun b xs e=>?_,fun b o x e=>?_,fun b ps e=>?_⟩,I.loc,I.cell,?_,fun x c e=>?_,fun p hp=>?_,fun b o e=>?_,I.len⟩
 ·rw [aJ (neN b (I.base.free b o e n hx))];exact I.base.free b o e n hx
 ·have q:=I.base.DT b xs e
  rw [aJ (neH b _ q (fun _ _ z=>nomatch z))];exact q
 ·have q:=I.base.Ar b o x e
  rw [aJ (fun z=>by rw [z] at e;exact hn _ _ e)];exact q
 ·obtain ⟨m,q⟩:=I.base.DP b ps e
  exact ⟨m,by rw [aJ (neH b _ q (fun _ _ z=>nomatch z))];exact q⟩
 ·rw [aJ (neN _ I.free)];exact I.free
 ·rw [aJ (neN c (I.mP x c e))];exact I.mP x c e
 ·obtain ⟨e,n,r⟩:=I.pin p hp
  exact ⟨e,by rw [aJ (neN _ n)];exact n,r⟩
 ·by_cases hb:b=d
  ·rw [hb,aD] at e
   cases e
   rw [hb]
   obtain ⟨_,x⟩:=I.eE d _ h
   exact x.sE (fun c v _ q=>q) (fun c q=>by rw [aJ (neH c _ q (fun _ _ z=>nomatch z))];exact q) fun c xs q=>by rw [aJ (neH c _ q (fun _ _ z=>nomatch z))];exact q
  ·rw [aJ hb] at e
   exact (I.eE b o e).sE (fun c v _ q=>q) (fun c q=>by rw [aJ (neH c _ q (fun _ _ z=>nomatch z))];exact q) fun c xs q=>by rw [aJ (neH c _ q (fun _ _ z=>nomatch z))];exact q
end
def RL(t:TS):TS:=fun D σ H=>∃ d u,H d=some u/\Mut (some u)/\∀ od,t ⟨fun σ' H'=>H' d=some (.mH od u)/\D.nx σ' (a6 H' d u),fun v H'=>H' d=some (.mH od u)/\D.rt v (a6 H' d u),fun σ' H'=>H' d=some (.mH od u)/\D.bk σ' (a6 H' d u),fun σ' H'=>H' d=some (.mH od u)/\D.ct σ' (a6 H' d u)⟩ σ (a6 H d (.mH od u))
def Q5(t:TE):TE:=fun σ H Q=>∃ d u,H d=some u/\Mut (some u)/\∀ od,t σ (a6 H d (.mH od u)) fun v H'=>H' d=some (.mH od u)/\Q v (a6 H' d u)
section
variable {X:Cx}
theorem Qj{st:Stmt}{t:TS}(h:PS X st t):PS X st (RL t):=by
 intro pins s σ H D I hw
 obtain ⟨d,u,hd,mu,hw⟩:=hw
 obtain ⟨od,I1⟩:=I.lock hd mu
 refine eD (h pins s σ _ _ I1 (hw od)) fun f s1 q=>?_
 cases f with
 | next=>obtain ⟨σ',H',I2,e,q⟩:=q;exact ⟨σ',_,I2.unlock e (I.K0 hd mu),q⟩
 | brk=>obtain ⟨σ',H',I2,e,q⟩:=q;exact ⟨σ',_,I2.unlock e (I.K0 hd mu),q⟩
 | cont=>obtain ⟨σ',H',I2,e,q⟩:=q;exact ⟨σ',_,I2.unlock e (I.K0 hd mu),q⟩
 | ret v=>obtain ⟨x,σ',H',I2,r,e,q⟩:=q;exact ⟨x,σ',_,I2.unlock e (I.K0 hd mu),r,q⟩
theorem Qn{e:Expr}{t:TE}(h:PE X e t):PE X e (Q5 t):=by
 intro pins s σ H Q I hw
 obtain ⟨d,u,hd,mu,hw⟩:=hw
 obtain ⟨od,I1⟩:=I.lock hd mu
 refine eD (h pins s σ _ _ I1 (hw od)) fun v s1 ⟨x,H1,I2,r,e2,q⟩=>?_
 exact ⟨x,_,I2.unlock e2 (I.K0 hd mu),r,q⟩
theorem L0{tg:Expr}{pins:List (Addr×Obj)}{σ:St}{H:Hp}{s:Shared}{R:It->Hp->Prop}{J:It}{tn:Nat->Heap->Prop}{tk:Nat}(I:bN X pins σ H s)(o:Obj)
 (T:Kg X.prog X.w X.K tg J [s.heap.objs.size] s.heap.objs.size tn) (st:tn 0 (s.heap.push o)) (q:R J H):PIE X pins σ tg R (.ref s.heap.objs.size) { s with heap:=s.heap.push o,toks:=tk }:=by
 refine ⟨s.heap.objs.size,[s.heap.objs.size],tn,J,H,rfl,I.kept fun b ob e=>Heap.get?_push_of_some _ e,T,st,fun b hb=>?_,q⟩
 have e:b=s.heap.objs.size:=by simpa using hb
 subst e
 exact I.OV (Nat.le_refl _) (I.eE.fresh (Nat.le_refl _))
end
section
variable {prog:Program}{w:World}{A:Around}{E:Value->Shared->Prop}{s:Shared}
theorem Hv{d:Addr}{o:Obj}{es:Array DictEntry}{ep:Nat}{Q:Value->Shared->Prop}(hd:(d==sysModules)=false)(ho:s.heap.get? d=some o)(hc:o.ExactDict)(hdat:o.data=.dict es ep)
 (hQ:Q (.ref s.heap.objs.size) { s with heap:=s.heap.push { cls:=.type "dict_keyiterator",data:=.fields #[.ref d,.int 0 0,.int es.size 0,.int ep 0] } }) :
 wpAny (model prog w) A (pyIter (.ref d)) Q E s:=by
 have hT:s.TypeIs (.ref d) "dict":=⟨o,ho,hc.1⟩
 refine wpAny_pyIter_slot hT F.slot_dict_iter (wpAny_call_entry F.slot_dict_iter hT F.entry_dict_iter ?_ (F.args_dict_iter_1 _))
 unfold Builtin.«dict.__iter__»
 refine wpAny_bind ?_
 unfold Builtin.Dict.dictSlotNone
 refine wpAny_bind (wpAny_notOrdered_dict hT ?_)
 show wpAny _ _ (pure (Value.ref d)) _ _ s
 refine wpAny_pure ?_
 show wpAny _ _ (Builtin.Dict.showsAll d >>= _) _ _ s
 unfold Builtin.Dict.showsAll
 rw [if_neg (by rw [hd];exact Bool.false_ne_true)]
 refine wpAny_bind (wpAny_pure ?_)
 refine wpAny_bind (wpAny_dictEntries ho hdat ?_)
 refine wpAny_bind (wpAny_dictEpoch ho hdat ?_)
 refine wpAny_bind (wpAny_newObj_type (wpAny_pure ⟨_,rfl,"dict_keyiterator",_,⟨_,Heap.get?_push_size _ rfl,rfl⟩,F.slot_dict_keyiterator_next.lookup,?_⟩))
 simpa [rawInt] using hQ
theorem Ge{it d:Addr}{i n ep:Nat}{od:Obj}{es:Array DictEntry}{en:DictEntry}{Q:Option Value->Shared->Prop}(hit:s.heap.IsKeyIter it d i n ep)(hod:s.heap.get? d=some od)(hdd:od.data=.dict es ep)
 (hsz:es.size=n) (hx:es[i]?=some en) (hQ:∀ h',h'.IsKeyIter it d (i+1) n ep->Heap.SameBut it s.heap h'->Q (some en.key) { s with heap:=h' }):wpAny (model prog w) A (pyNext (.ref it)) Q E s:=by
 obtain ⟨o,ho,hc,hd⟩:=id hit
 unfold pyNext
 refine wpAny_bind (wpAny_attempt (wpAny_callSpecial?_slot (name:=Str.ofString "__next__") hit.typeIs F.slot_dict_keyiterator_next
  (wpAny_call_entry F.slot_dict_keyiterator_next hit.typeIs F.entry_dict_keyiterator_next ?_ (F.args_dict_keyiterator_next_1 _))))
 refine wpAny_bind (wpAny_pure ?_)
 refine wpAny_bind ?_
 refine wpAny_bind ?_
 first|refine wpAny_bind (wpAny_typeNameOfWhole_keyiter hit.typeIs (wpAny_pure ?_))|refine wpAny_bind (wpAny_typeNameOf_keyiter hit.typeIs (wpAny_pure ?_))
 refine wpAny_bind (wpAny_fieldsOf ho hd ?_)
 have hown:Builtin.Dict_items.ownsTuple "dict_keyiterator"=false:=by decide
 simp only [hown,Bool.false_eq_true,if_false]
 show wpAny _ _ (if (Value.ref d==Value.none)=true then _ else _) _ _ s
 rw [if_neg (show ¬ ((Value.ref d==Value.none)=true) from Bool.false_ne_true)]
 refine wpAny_bind (wpAny_pure ?_)
 refine wpAny_bind (wpAny_dictEntries hod hdd ?_)
 rw [if_neg (by rw [hsz];simp)]
 refine wpAny_bind (wpAny_pure ?_)
 refine wpAny_bind (wpAny_dictEpoch hod hdd ?_)
 rw [if_neg (by simp)]
 refine wpAny_pure ?_
 obtain ⟨hlt',hen⟩:=Array.getElem?_eq_some_iff.mp hx
 simp only [show ¬ ((i:Int)<0) from by omega,if_false,Int.toNat_natCast,Array.getElem?_eq_getElem hlt']
 refine wpAny_bind ?_
 first|refine wpAny_bind (wpAny_typeNameOfWhole_keyiter hit.typeIs (wpAny_pure ?_))|refine wpAny_bind (wpAny_typeNameOf_keyiter hit.typeIs (wpAny_pure ?_))
 refine wpAny_bind (wpAny_isOneOf_keyiter hit.typeIs ?_)
 show wpAny _ _ (setField (.ref it) 1 (rawInt ((i:Int)+1)) >>= _) _ _ s
 refine wpAny_bind (wpAny_setField ho hd (by simp) ?_)
 have hit':(s.heap.update it (Obj.mapFields (·.setIfInBounds 1 (rawInt ((i:Int)+1))))).IsKeyIter it d (i+1) n ep :=
  ⟨_,Heap.get?_update_self _ ho (Obj.isFreed_of_fields (Obj.data_mapFields hd _)),(Obj.cls_mapFields ..).trans hc,by rw [Obj.data_mapFields hd];simp [rawInt]⟩
 refine wpAny_bind (wpAny_holding ?_)
 refine wpAny_bind (wpAny_isOneOf_keyiter (s:={ s with heap:=s.heap.update it (Obj.mapFields (·.setIfInBounds 1 (rawInt ((i:Int)+1)))) }) hit'.typeIs ?_)
 show wpAny _ _ (pure es[i].key) _ _ _
 rw [hen]
 exact wpAny_pure (wpAny_pure ⟨_,rfl,wpAny_pure (hQ _ hit' (Heap.SameBut.update ..))⟩)
theorem BH{it d:Addr}{i n ep:Nat}{od:Obj}{es:Array DictEntry}{Q:Option Value->Shared->Prop}(hh:A.handled=none)(hit:s.heap.IsKeyIter it d i n ep)(hod:s.heap.get? d=some od)(hdd:od.data=.dict es ep)
 (hsz:es.size=n) (hge:n<=i) (hQ:∀ h',Heap.ExtBut it s.heap h'->Q none { s with heap:=h' }):wpAny (model prog w) A (pyNext (.ref it)) Q E s:=by
 obtain ⟨o,ho,hc,hd⟩:=id hit
 unfold pyNext
 refine wpAny_bind (wpAny_attempt (wpAny_callSpecial?_slot (name:=Str.ofString "__next__") hit.typeIs F.slot_dict_keyiterator_next
  (wpAny_call_entry F.slot_dict_keyiterator_next hit.typeIs F.entry_dict_keyiterator_next ?_ (F.args_dict_keyiterator_next_1 _))))
 refine wpAny_bind (wpAny_pure ?_)
 refine wpAny_bind ?_
 refine wpAny_bind ?_
 first|refine wpAny_bind (wpAny_typeNameOfWhole_keyiter hit.typeIs (wpAny_pure ?_))|refine wpAny_bind (wpAny_typeNameOf_keyiter hit.typeIs (wpAny_pure ?_))
 refine wpAny_bind (wpAny_fieldsOf ho hd ?_)
 have hown:Builtin.Dict_items.ownsTuple "dict_keyiterator"=false:=by decide
 simp only [hown,Bool.false_eq_true,if_false]
 show wpAny _ _ (if (Value.ref d==Value.none)=true then _ else _) _ _ s
 rw [if_neg (show ¬ ((Value.ref d==Value.none)=true) from Bool.false_ne_true)]
 refine wpAny_bind (wpAny_pure ?_)
 refine wpAny_bind (wpAny_dictEntries hod hdd ?_)
 rw [if_neg (by rw [hsz];simp)]
 refine wpAny_bind (wpAny_pure ?_)
 refine wpAny_bind (wpAny_dictEpoch hod hdd ?_)
 rw [if_neg (by simp)]
 refine wpAny_pure ?_
 have hge':es.size<=i:=by rw [hsz];exact hge
 simp only [show ¬ ((i:Int)<0) from by omega,if_false,Int.toNat_natCast,Array.getElem?_eq_none hge']
 refine wpAny_bind ?_
 first|refine wpAny_bind (wpAny_typeNameOfWhole_keyiter hit.typeIs (wpAny_pure ?_))|refine wpAny_bind (wpAny_typeNameOf_keyiter hit.typeIs (wpAny_pure ?_))
 show wpAny _ _ (setField (.ref it) 0 .none >>= _) _ _ s
 refine wpAny_bind (wpAny_setField ho hd (by simp) ?_)
 show wpAny _ _ (newExc (.type "StopIteration") [] >>= _) _ _ _
 refine wpAny_bind ?_
 simp only [newExc,newTuple]
 refine wpAny_bind (wpAny_newObj_type ?_ (by size_fits))
 refine wpAny_bind (m:=firstArgMember _ _) (wpAny_of_eq (a:=Value.none) (by first|rfl|(simp only [firstArgMember];rfl)) ?_)
 refine wpAny_newObj_type ?_ (by size_fits)
 simp only [raiseNew]
 refine wpAny_bind (wpAny_handled ?_)
 rw [show A.in1.handled=none from hh]
 refine wpAny_bind (wpAny_pure (wpAny_throw ?_))
 refine wpAny_bind (wpAny_isInstance (T:="StopIteration") (b:=true) ⟨_,Heap.get?_push_size _ rfl,rfl⟩ isSubtype_stop ?_)
 exact wpAny_pure (hQ _ (((Heap.SameBut.update ..).extBut.push _).push _))
end
theorem Oh{κ:Type}{kvs:List (κ×V)}{vs:List (κ×Value)}(h:KV kvs vs):∀ {i:Nat} {k:κ} {v:V},kvs[i]?=some (k,v)->∃ u,vs[i]?=some (k,u)/\cJ v u:=by
 unfold KV at h
 induction h with
 | nil=>intro i k v e;simp at e
 | @cons a b l₁ l₂ r t ih =>
  intro i k v e
  cases i with
  | zero =>
   simp only [List.getElem?_cons_zero,Option.some.injEq] at e
   subst e
   refine ⟨b.2,?_,r.2⟩
   simp only [List.getElem?_cons_zero]
   exact congrArg some (Prod.ext r.1.symm rfl)
  | succ j =>
   simp only [List.getElem?_cons_succ] at e ⊢
   exact ih e
theorem LO{α β:Type}{G:α->β->Prop}{l₁:List α}{l₂:List β}(h:Paired G l₁ l₂):∀ {i:Nat} {a:α},l₁[i]?=some a->∃ b,l₂[i]?=some b/\G a b:=by
 induction h with
 | nil=>intro i a e;simp at e
 | @cons a b l₁ l₂ r t ih =>
  intro i a' e
  cases i with
  | zero =>
   simp only [List.getElem?_cons_zero,Option.some.injEq] at e
   subst e
   exact ⟨b,rfl,r⟩
  | succ j =>
   simp only [List.getElem?_cons_succ] at e ⊢
   exact ih e
theorem O4{k:fY}{u:Value}(h:BS k u=true):cJ (kV k) u:=by
 rcases d8 h with ⟨i,t,rfl,rfl⟩|⟨x,t,rfl,rfl⟩
 ·exact ⟨t,rfl⟩
 ·exact ⟨t,rfl⟩
section
variable {X:Cx}{pins:List (Addr×Obj)}{σ:St}{H:Hp}{s:Shared}{d:Addr}{o:Obj}
theorem bN.Nt{kvs:List (fY×V)}(I:bN X pins σ H s)(h:H d=some (.mH o (.dK kvs))) :
 (d==sysModules)=false/\s.heap.get? d=some o/\o.ExactDict/\∃ (es:Array DictEntry) (ep:Nat) (vs:List (fY×Value)),o.data=.dict es ep/\es.size=kvs.length/\KV kvs vs/\s.heap.DictAt (dY X.prog X.w) d vs ep:=by
 obtain ⟨hd,z,hs,vs,kv,o',es,ep,ho,hx,hdt,r⟩:=I.eE d _ h
 rw [hd] at ho
 cases ho
 refine ⟨hs,hd,hx,es,ep,vs,hdt,?_,kv,o,es,hd,hx,hdt,r⟩
 have l1:=r.2.1.length
 have l2:kvs.length=vs.length:=Paired.length kv
 rw [Array.length_toList] at l1
 omega
theorem bN.Ri{kvs:List (List fY×V)}(I:bN X pins σ H s)(h:H d=some (.mH o (.dT kvs))) :
 (d==sysModules)=false/\s.heap.get? d=some o/\o.ExactDict/\∃ (es:Array DictEntry) (ep:Nat),o.data=.dict es ep/\es.size=kvs.length ∧
  ∀ (i:Nat) (k:List fY) (v:V),kvs[i]?=some (k,v)->∃ (en:DictEntry) (q:Addr),es[i]?=some en/\en.key=.ref q/\H q=some (.tup (k.map kV)):=by
 obtain ⟨hd,z,hs,xs,pr,o',es,ep,ho,hx,hdt,he,_⟩:=I.eE d _ h
 rw [hd] at ho
 cases ho
 refine ⟨hs,hd,hx,es,ep,hdt,?_,fun i k v e=>?_⟩
 ·have l1:es.size=xs.length:=size_of_entries he
  have l2:kvs.length=xs.length:=Paired.length pr
  omega
 ·obtain ⟨b,hb,e1,e2,_⟩:=LO pr e
  have q:=entry_at he i
  rw [hb] at q
  exact ⟨_,b.2.1,q,rfl,e2⟩
end
def Itk(d:Addr)(o:Obj)(kvs:List (fY×V)):It :=
 ⟨fun i H=>H d=some (.mH o (.dK kvs))/\i<kvs.length,fun i H x H'=>H'=H/\∃ k v,kvs[i]?=some (k,v)/\x=kV k,fun i H=>H d=some (.mH o (.dK kvs))/\kvs.length<=i⟩
def RU(d:Addr)(o:Obj)(kvs:List (List fY×V)):It :=
 ⟨fun i H=>H d=some (.mH o (.dT kvs))/\i<kvs.length,fun i H x H'=>H'=H/\∃ (k:List fY) (v:V) (q:Addr),kvs[i]?=some (k,v)/\x=.ref q/\H q=some (.tup (k.map kV)),fun i H=>H d=some (.mH o (.dT kvs))/\kvs.length<=i⟩
def Itd(d:Addr)(o:Obj)(kvs:List (fY×V)):It :=
 ⟨fun i H=>H d=some (.mH o (.dK kvs))/\i<kvs.length,fun i H x H'=>H'=H/\∃ k,kvs[i]?=some (k,x),fun i H=>H d=some (.mH o (.dK kvs))/\kvs.length<=i⟩
theorem xA{o:Obj}{es es':Array DictEntry}{ep ep':Nat}(h:o.data=.dict es ep)(h':o.data=.dict es' ep'):es'=es/\ep'=ep:=by
 rw [h] at h'
 cases h'
 exact ⟨rfl,rfl⟩
section
variable {P:Program}{w:World}{K:Frag}{tg:Expr}{d:Addr}{o:Obj}{es:Array DictEntry}{ep:Nat}
theorem NH{kvs:List (fY×V)}(it:Addr)(hod:o.data=.dict es ep):Kg P w K tg (Itk d o kvs) [it] it (fun i h=>h.IsKeyIter it d i kvs.length ep) where
 mem:=by simp
 obj:=fun i h st b hb=>by
  have e:b=it:=by simpa using hb
  subst e
  obtain ⟨oi,e,c,dd⟩:=st
  exact ⟨oi,e,fun v z=>by rw [dd] at z;cases z⟩
 keep:=fun i h h' st k=>st.at fun oi e=>k it (by simp) oi e
 item:=by
  intro X hP hw hK hc i pins s σ H E I hf st hg
  subst hP hw hK
  obtain ⟨hd,hi⟩:=hg
  obtain ⟨f0,f1,f2,f3,f4,f5⟩:=hf it (by simp)
  obtain ⟨hs,hgd,hx,es',ep',vs,hdt,hsz,kv,hm⟩:=I.Nt hd
  obtain ⟨rfl,rfl⟩:=xA hod hdt
  obtain ⟨⟨k,v⟩,hkv⟩:∃ p,kvs[i]?=some p:=⟨kvs[i],getElem?_eq_getElem hi⟩
  obtain ⟨u,hu,ru⟩:=Oh kv hkv
  have hl:kvs.length=vs.length:=Paired.length kv
  rw [hl] at st
  refine wpAny_pyNext_dict_item st hm hu fun key h' hkey st' sb=>?_
  have I1:bN X pins σ H { s with heap:=h' }:=I.turned (t':=s.toks) (fun b ob hb e=>(sb.2 b hb).trans e) f0 f1 f3 f4 f5
  obtain ⟨oi,e,c,dd⟩:=id st'
  refine ⟨key,rfl,HN (s:={ s with heap:=h' }) e c dd (by decide) ⟨kV k,H,I1,O4 (show BS k key=true from hkey),⟨rfl,k,v,hkv,rfl⟩,?_,fun b hb=>(hf b hb).1⟩⟩
  show h'.IsKeyIter it d (i+1) kvs.length _
  rw [hl]
  exact st'
 done:=by
  intro X hP hw hK hc i pins s σ H E I hf st hg
  subst hP hw hK
  obtain ⟨hd,hi⟩:=hg
  obtain ⟨f0,f1,f2,f3,f4,f5⟩:=hf it (by simp)
  obtain ⟨hs,hgd,hx,es',ep',vs,hdt,hsz,kv,hm⟩:=I.Nt hd
  obtain ⟨rfl,rfl⟩:=xA hod hdt
  exact BH (I.ok.hd hc) st hgd hdt hsz hi fun h' eb=>⟨rfl,I.turned (t':=s.toks) (fun b ob hb e=>eb b ob hb e) f0 f1 f3 f4 f5⟩
 self:=fun A i s Q E st h=>wpAny_pyIter_keyiter st h
theorem Ln{kvs:List (List fY×V)}(it:Addr)(hod:o.data=.dict es ep):Kg P w K tg (RU d o kvs) [it] it (fun i h=>h.IsKeyIter it d i kvs.length ep) where
 mem:=by simp
 obj:=fun i h st b hb=>by
  have e:b=it:=by simpa using hb
  subst e
  obtain ⟨oi,e,c,dd⟩:=st
  exact ⟨oi,e,fun v z=>by rw [dd] at z;cases z⟩
 keep:=fun i h h' st k=>st.at fun oi e=>k it (by simp) oi e
 item:=by
  intro X hP hw hK hc i pins s σ H E I hf st hg
  subst hP hw hK
  obtain ⟨hd,hi⟩:=hg
  obtain ⟨f0,f1,f2,f3,f4,f5⟩:=hf it (by simp)
  obtain ⟨hs,hgd,hx,es',ep',hdt,hsz,ent⟩:=I.Ri hd
  obtain ⟨rfl,rfl⟩:=xA hod hdt
  obtain ⟨⟨k,v⟩,hkv⟩:∃ p,kvs[i]?=some p:=⟨kvs[i],getElem?_eq_getElem hi⟩
  obtain ⟨en,q,hen,hkey,hq⟩:=ent i k v hkv
  refine Ge st hgd hdt hsz hen fun h' st' sb=>?_
  have I1:bN X pins σ H { s with heap:=h' }:=I.turned (t':=s.toks) (fun b ob hb e=>(sb.2 b hb).trans e) f0 f1 f3 f4 f5
  obtain ⟨oi,e,c,dd⟩:=id st'
  exact ⟨en.key,rfl,HN (s:={ s with heap:=h' }) e c dd (by decide) ⟨.ref q,H,I1,hkey,⟨rfl,k,v,q,hkv,rfl,hq⟩,st',fun b hb=>(hf b hb).1⟩⟩
 done:=by
  intro X hP hw hK hc i pins s σ H E I hf st hg
  subst hP hw hK
  obtain ⟨hd,hi⟩:=hg
  obtain ⟨f0,f1,f2,f3,f4,f5⟩:=hf it (by simp)
  obtain ⟨hs,hgd,hx,es',ep',hdt,hsz,ent⟩:=I.Ri hd
  obtain ⟨rfl,rfl⟩:=xA hod hdt
  exact BH (I.ok.hd hc) st hgd hdt hsz hi fun h' eb=>⟨rfl,I.turned (t':=s.toks) (fun b ob hb e=>eb b ob hb e) f0 f1 f3 f4 f5⟩
 self:=fun A i s Q E st h=>by
  refine wpAny_pyIter_slot st.typeIs F.slot_dict_keyiterator_iter (wpAny_call_entry F.slot_dict_keyiterator_iter st.typeIs F.entry_dict_keyiterator_iter ?_ (F.args_dict_keyiterator_iter_1 _))
  show wpAny _ _ (ret (.ref it)) _ _ s
  exact wpAny_pure ⟨_,rfl,"dict_keyiterator",_,st.typeIs,F.slot_dict_keyiterator_next.lookup,h⟩
theorem NO{kvs:List (fY×V)}(it:Addr)(hod:o.data=.dict es ep):Kg P w K tg (Itd d o kvs) [it] it (fun i h=>h.IsValIter it d i kvs.length ep) where
 mem:=by simp
 obj:=fun i h st b hb=>by
  have e:b=it:=by simpa using hb
  subst e
  obtain ⟨oi,e,c,dd⟩:=st
  exact ⟨oi,e,fun v z=>by rw [dd] at z;cases z⟩
 keep:=fun i h h' st k=>st.at fun oi e=>k it (by simp) oi e
 item:=by
  intro X hP hw hK hc i pins s σ H E I hf st hg
  subst hP hw hK
  obtain ⟨hd,hi⟩:=hg
  obtain ⟨f0,f1,f2,f3,f4,f5⟩:=hf it (by simp)
  obtain ⟨hs,hgd,hx,es',ep',vs,hdt,hsz,kv,hm⟩:=I.Nt hd
  obtain ⟨rfl,rfl⟩:=xA hod hdt
  obtain ⟨⟨k,v⟩,hkv⟩:∃ p,kvs[i]?=some p:=⟨kvs[i],getElem?_eq_getElem hi⟩
  obtain ⟨u,hu,ru⟩:=Oh kv hkv
  have hl:kvs.length=vs.length:=Paired.length kv
  rw [hl] at st
  refine wpAny_pyNext_values_item st hm hu fun h' st' sb=>?_
  have I1:bN X pins σ H { s with heap:=h' }:=I.turned (t':=s.toks) (fun b ob hb e=>(sb.2 b hb).trans e) f0 f1 f3 f4 f5
  obtain ⟨oi,e,c,dd⟩:=id st'
  refine ⟨u,rfl,HN (s:={ s with heap:=h' }) e c dd (by decide) ⟨v,H,I1,ru,⟨rfl,k,hkv⟩,?_,fun b hb=>(hf b hb).1⟩⟩
  show h'.IsValIter it d (i+1) kvs.length _
  rw [hl]
  exact st'
 done:=by
  intro X hP hw hK hc i pins s σ H E I hf st hg
  subst hP hw hK
  obtain ⟨hd,hi⟩:=hg
  obtain ⟨f0,f1,f2,f3,f4,f5⟩:=hf it (by simp)
  obtain ⟨hs,hgd,hx,es',ep',vs,hdt,hsz,kv,hm⟩:=I.Nt hd
  obtain ⟨rfl,rfl⟩:=xA hod hdt
  have hl:kvs.length=vs.length:=Paired.length kv
  rw [hl] at st
  exact wpAny_pyNext_values_end (I.ok.hd hc) st hm (List.getElem?_eq_none (by omega)) fun h' eb=>⟨rfl,I.turned (t':=s.toks) (fun b ob hb e=>eb b ob hb e) f0 f1 f3 f4 f5⟩
 self:=fun A i s Q E st h=>wpAny_pyIter_valiter st h
end
def RQ(td:TE):TI:=fun σ H R=>td σ H fun x H1=>∃ d o,x=.ref d/\((∃ kvs,H1 d=some (.mH o (.dK kvs))/\R (Itk d o kvs) H1)\/∃ kvs,H1 d=some (.mH o (.dT kvs))/\R (RU d o kvs) H1)
def Si(td:TE):TI:=fun σ H R=>td σ H fun x H1=>∃ d o kvs,x=.ref d/\H1 d=some (.mH o (.dK kvs))/\R (Itd d o kvs) H1
section
variable {X:Cx}{tg e:Expr}{td:TE}{apos cpos:Pos}
theorem Po(he:PE X e td):PI X tg e (RQ td):=by
 intro pins s σ H R I h
 refine eD (he pins s σ H _ I h) fun u s1 ⟨x,H1,I1,rx,d,o,ex,q⟩=>?_
 subst ex
 obtain rfl:u=Value.ref d:=rx
 rcases q with ⟨kvs,hd,q⟩|⟨kvs,hd,q⟩
 ·obtain ⟨hs,hgd,hx,es,ep,vs,hdt,hsz,kv,hm⟩:=I1.Nt hd
  refine Hv hs hgd hx hdt (L0 (tk:=s1.toks) I1 _ (NH _ hdt) ⟨_,Heap.get?_push_size _ rfl,rfl,?_⟩ q)
  rw [hsz]<;>rfl
 ·obtain ⟨hs,hgd,hx,es,ep,hdt,hsz,ent⟩:=I1.Ri hd
  refine Hv hs hgd hx hdt (L0 (tk:=s1.toks) I1 _ (Ln _ hdt) ⟨_,Heap.get?_push_size _ rfl,rfl,?_⟩ q)
  rw [hsz]<;>rfl
theorem NN(he:PE X e td)(hbase:attributeBase e "values" X.env (eval e X.env)=eval e X.env:=by rfl)(hline:(apos.endLine==cpos.line)=true:=by rfl):PI X tg (.Call (.Attribute e "values" apos) [] [] cpos) (Si td):=by
 intro pins s σ H R I h
 refine wpAny_Call_method (T:="dict") (id:="dict.values") hbase rfl hline F.plainAttrs_dict F.slot_dict_values F.type_dict_values (eD (he pins s σ H _ I h) fun u s1 ⟨x,H1,I1,rx,d,o,kvs,ex,hd,q⟩=>?_)
 subst ex
 obtain rfl:u=Value.ref d:=rx
 obtain ⟨hs,hgd,hx,es,ep,vs,hdt,hsz,kv,hm⟩:=I1.Nt hd
 have hl:kvs.length=vs.length:=Paired.length kv
 refine ⟨hm.dictOf.typeIs,hm.dictOf.mapOf.noDict,?_⟩
 have I2:bN X pins σ H1 { s1 with heap:=s1.heap.push { cls:=.type "dict_values",data:=.fields #[.ref d] } }:=I1.kept (t':=s1.toks) fun b ob q=>Heap.get?_push_of_some _ q
 have fin:wpAny (model X.prog X.w) X.A (pyIter (.ref s1.heap.objs.size)) (PIE X pins σ tg R) X.xe { s1 with heap:=s1.heap.push { cls:=.type "dict_values",data:=.fields #[.ref d] } }:=by
  refine wpAny_pyIter_values (d:=d) (knd:=dY X.prog X.w) ⟨_,Heap.get?_push_size _ rfl,rfl,rfl⟩ (hm.push _) (L0 (tk:=s1.toks) I2 _ (NO _ hdt) ⟨_,Heap.get?_push_size _ rfl,rfl,?_⟩ q)
  rw [hl]<;>rfl
 show wpAny _ _ (callWith cpos (.builtin "dict.values") [.ref d] [] []) _ X.xe s1
 exact method_meetsIn F.slot_dict_values F.entry_dict_values rfl (PySem.evalArgs_none ⟨rfl,hm.dictOf.typeIs,F.args_dict_values_1 _,_,meets_dict_values (dY X.prog X.w) d hs,⟨vs,hm.dictOf⟩,fin⟩)
end
end L2
namespace Att
open PySem PySem.W PySem.Calls PyProof.Rows
end Att
namespace L2
open PySem PySem.Spec PyProof.Rows
def dU(s:Stmt)(j:Nat):Stmt:=match s with
 | .ClassDef _ _ _ body _ _ _ _ _ _ _=>body.getD j (.Pass ⟨0,0,0,0⟩)
 | _=>.Pass ⟨0,0,0,0⟩
def fP(s:Stmt):Arguments:=match s with
 | .FunctionDef _ a _ _ _ _ _ _ _ _=>a
 | _=>{ posonlyargs:=[],args:=[],vararg:=none,kwonlyargs:=[],kw_defaults:=[],kwarg:=none,defaults:=[] }
def eO(s:Stmt):List Stmt:=match s with
 | .FunctionDef _ _ b _ _ _ _ _ _ _=>b
 | _=>[]
def aI(s:Stmt):Scope:=match s with
 | .FunctionDef _ _ _ _ _ _ sc _ _ _=>sc
 | _=>{ kind:=.function,names:=[],isGenerator:=false,isCoroutine:=false }
abbrev hJ:CXT:=fun _ _ _ _ _ _=>False
abbrev E0:XK:=fun _ _ _=>False
theorem aV{X:Cx}:lA hJ X E0:=fun _ _ _ _ _ _ _ h=>h.elim
structure Fun(K:Frag)(x qual:Str)(st:Stmt)(f:Addr)(fd:FuncData):Prop where
 ex:∃ (oc:Value) (od:Option Addr) (kV doc pm:Value) (an:Option Addr) (cdv ct:Value) (osl:Array (Option Value)),
  fd=fnOf x qual (fP st) (eO st) (aI st) .none kV doc pm an cdv ct/\K.lookup f=some ⟨oc,od,.func fd,osl⟩/\codeIn K cdv qual=true
 kp:keepIn K (.ref f)=true
section
variable {P:Program}{w:World}{K:Frag}{mg:Str->Option Value}{base:Heap}
theorem Fun.ok{x qual:Str}{st:Stmt}{f:Addr}{fd:FuncData}{N ps:List Str}{k:Nat}{sp:Sp}(F:Fun K x qual st f fd)(S:aN N ps (aI st))(len:∀ vs H Q E,sp vs H Q E->vs.length=ps.length)
 (hbody:∀ (cdv:Value) (A:Around) (outer:List Env) (s:Shared) (H:Hp) (vs:List V) (Q:VK) (E:XK),iW k (A.deeper (envOfC qual (aI st) s.heap.objs.size f cdv))->sp vs H Q E →
  ∃ t,PSs (uH hJ P w K mg base N qual (aI st) f cdv A outer s H E).nox (eO st) t/\t { nx:=fun _ H'=>Q .eX H',rt:=Q } (start N vs) H):bL P w K mg base hJ (k+1) f fd ps sp:=by
 obtain ⟨oc,od,kV,doc,pm,an,cdv,ct,osl,rfl,lk,hcd⟩:=F.ex
 refine QD lk hcd S len fun A outer s H vs Q E hr hsp=>?_
 obtain ⟨t,h,q⟩:=hbody cdv A outer s H vs Q E hr hsp
 exact ⟨t,h.nox,q⟩
theorem Fun.binds{x qual:Str}{st:Stmt}{f:Addr}{fd:FuncData}{ps:List Str}(F:Fun K x qual st f fd)
 (h:∀ (kV doc pm:Value) (an:Option Addr) (cdv ct:Value) (us:List Value),us.length=ps.length->bindArgs (fnOf x qual (fP st) (eO st) (aI st) .none kV doc pm an cdv ct) ⟨us,[]⟩=pure (ps.zip us)):pX K fd ps []:=by
 obtain ⟨oc,od,kV,doc,pm,an,cdv,ct,osl,rfl,lk,hcd⟩:=F.ex
 exact .all (h kV doc pm an cdv ct)
theorem CH{x qual:Str}{st:Stmt}{f:Addr}{oc:Value}{od an:Option Addr}{osl:Array (Option Value)}{kV doc pm cdv ct:Value}(l:K.lookup f=some ⟨oc,od,.func (fnOf x qual (fP st) (eO st) (aI st) .none kV doc pm an cdv ct),osl⟩)
 (c:codeIn K cdv qual=true) (k:keepIn K (.ref f)=true):Fun K x qual st f (fnOf x qual (fP st) (eO st) (aI st) .none kV doc pm an cdv ct):=⟨⟨oc,od,kV,doc,pm,an,cdv,ct,osl,rfl,l,c⟩,k⟩
end
theorem Dl{A:Around}{k:Nat}(hr:iW k A):A.units+1<cLine:=Nat.lt_of_le_of_lt (Nat.add_le_add_left (by decide:1<=64) _) hr.units
section
variable {X:Cx}
theorem pv(i:Nat){x:Str}{pos:Pos}(hN:X.N[i]?=some x:=by rfl)(hv:Vis X.env.scope x:=by first|exact Or.inl rfl|exact Or.inr (Or.inl rfl)|exact Or.inr (Or.inr rfl))(hd:(x==("__debug__":Str))=false:=by decide)
 (hcd:(x==("__classdict__":Str))=false:=by decide):PE X (.Name x pos) (IZ i):=RH hN hv hd hcd
end
theorem NR{A B:Prop}(h:B):if false=true then A else B:=by
 rw [if_neg Bool.false_ne_true]
 exact h
theorem oB{A B:Prop}(h:A):if true=true then A else B:=by
 rw [if_pos rfl]
 exact h
def aK(H H':Hp):Prop:=∀ b o,H b=some o->H' b=some o
theorem aK.trans{H H1 H2:Hp}(a:aK H H1)(b:aK H1 H2):aK H H2:=fun c o h=>b c o (a c o h)
theorem aK.free{H H':Hp}(e:aK H H'){l:Addr}(h:H' l=Option.none):H l=Option.none:=by
 cases q:H l with
 | none=>rfl
 | some o =>
  rw [e l o q] at h
  cases h
theorem aK.seq{K:Frag}{H H':Hp}{a:Addr}{xs:List V}(e:aK H H')(h:cT K H a xs):cT K H' a xs:=by
 rcases h with (h|⟨o,h⟩)|h
 ·exact .inl (.inl (e _ _ h))
 ·exact .inl (.inr ⟨o,e _ _ h⟩)
 ·exact .inr h
def S0(B:Heap)(e:Addr)(vs:Array Value)(h:Heap):Option Value->Prop
 | none=>vs[1]?=some Value.none
 | some fl=>∃ T oT ts,vs[1]?=some (Value.ref T)/\B.get? T=none/\T≠e/\h.get? T=some oT/\oT.data=.fields ts/\ts[3]?=some fl
structure Fly(B:Heap)(l:List Env)(e:Addr)(cls cx:Value)(m:Option Value)(h:Heap):Prop where
 sE:B.StaysIn h
 new:B.get? e=none
 frames:h.FunFrames B l
 exc:∃ oe vs,h.get? e=some oe/\oe.cls=cls/\oe.data=.fields vs/\vs[2]?=some cx/\S0 B e vs h m
section
variable {M:Model}{A:Around}{E:Value->Shared->Prop}{s:Shared}{B:Heap}{l outer:List Env}{env:Env}{e L:Addr}{cls fl cx:Value}
theorem Bp{Q:Unit->Shared->Prop}(F:Fly B l e cls cx (some fl) s.heap)(k:∀ h',Fly B l e cls cx (some Value.none) h'->s.heap.UpToSlots h'->Q () { s with heap:=h' }):wpAny M A (setFlight (.ref e) none) Q E s:=by
 obtain ⟨oe,vs,he,hc,hd,h2,T,oT,ts,h1,hT0,hTe,hT,hdT,h3⟩:=F.exc
 have z:3<ts.size:=(Array.getElem?_eq_some_iff.mp h3).1
 have ot:∀ b,b≠T->(s.heap.update T (Obj.mapFields (·.setIfInBounds 3 ((none:Option Addr).elim Value.none fun f=>rawInt f)))).get? b=s.heap.get? b:=fun b hb=>Heap.get?_update_other _ _ (Ne.symm hb)
 have nT:∀ b o,s.heap.get? b=some o->(∀ ws,o.data≠.fields ws)->b≠T:=by
  intro b o q n z
  subst z
  have:=q.symm.trans hT
  cases this
  exact n ts hdT
 unfold setFlight
 refine wpAny_bind (wpAny_field he hd h1 ?_)
 have hne:(Value.ref T !=Value.none)=true:=by simp
 rw [if_pos hne]
 refine wpAny_setField hT hdT z (k _ ⟨?_,F.new,?_,?_⟩ ?_)
 ·intro b o q
  have:b≠T:=fun z=>by rw [z,hT0] at q;cases q
  rw [ot b this]
  exact F.sE b o q
 ·exact F.frames.of_keeps fun b o q n=>⟨o,by rw [ot b (nT b o q n)];exact q,rfl⟩
 ·refine ⟨oe,vs,by rw [ot e (Ne.symm hTe)];exact he,hc,hd,h2,T,_,_,h1,hT0,hTe,Heap.get?_update_self _ hT (Obj.isFreed_of_fields (Obj.data_mapFields hdT _)),Obj.data_mapFields hdT _,?_⟩
  simp [z]
 ·intro b o q n
  exact ⟨o.slots,by rw [ot b (nT b o q n)];exact q⟩
theorem Hu{Q:Unit->Shared->Prop}{oe:Obj}{vs:Array Value}{head:Value}{had:Bool}(hfr:A.frames=some (env::outer))(hf:env.frame=some L)(st:B.StaysIn s.heap)(nw:B.get? e=none)(fr:s.heap.FunFrames B (env::outer))
 (he:s.heap.get? e=some oe) (hc:oe.cls=cls) (hd:oe.data=.fields vs) (h1:1<vs.size) (h2:vs[2]?=some cx)
 (k:∀ h',Fly B (env::outer) e cls cx (some (rawInt L)) h'->s.heap.UpToSlots h'->Q () { s with heap:=h' }) :
 wpAny M A (do let a <-frameOf env;let pl <-entryPlaceOf L had;let b <-EntryCells.newEntry head a .none (rawInt L) .none pl;setField (.ref e) 1 b) Q E s:=by
 have efr:e∉(env::outer).filterMap (·.frame):=by
  intro q
  obtain ⟨_,o,ho,n⟩:=fr.mem q
  have:=he.symm.trans ho
  cases this
  exact n vs hd
 have nE:∀ b o,s.heap.get? b=some o->(∀ ws,o.data≠.fields ws)->b≠e:=by
  intro b o q n z
  subst z
  have:=q.symm.trans he
  cases this
  exact n vs hd
 refine wpAny_bind (wpAny_frameOf_fun hfr fr hf fun g sl=>?_)
 have eg:g.get? e=some oe:=(sl.2.1 e efr).trans he
 have stg:B.StaysIn g:=fun b o q=>(sl.2.1 b fun m=>by have:=(fr.mem m).1;rw [q] at this;cases this).trans (st b o q)
 refine wpAny_bind (wpAny_entryPlaceOf fun pl hpl=>?_)
 unfold EntryCells.newEntry newFields
 refine wpAny_bind (wpAny_newObj_type ?_ (hpl.sizeOk5 head (.ref L) .none (rawInt L) .none))
 generalize hob:({ cls:=Value.type "traceback",dict:=none,data:=Data.fields ([head,.ref L,.none,rawInt L,.none]++(if pl.isEmpty then List.replicate 6 Value.none else pl)).toArray }:Obj)=ob
 have obd:ob.data=.fields ([head,.ref L,.none,rawInt L,.none]++(if pl.isEmpty then List.replicate 6 Value.none else pl)).toArray:=by rw [<-hob]
 have ob3:([head,.ref L,.none,rawInt L,.none]++(if pl.isEmpty then List.replicate 6 Value.none else pl)).toArray[3]?=some (rawInt L):=by simp
 have obf:ob.isFreed=false:=Obj.isFreed_of_fields obd
 have ep:(g.push ob).get? e=some oe:=Heap.get?_push_of_some ob eg
 have nTe:g.objs.size≠e:=Nat.ne_of_gt (Heap.lt_size eg)
 refine wpAny_setField ep hd h1 (k _ ⟨?_,nw,?_,?_⟩ ?_)
 ·intro b o q
  have:b≠e:=fun z=>by rw [z,nw] at q;cases q
  rw [Heap.get?_update_other _ _ (Ne.symm this)]
  exact Heap.get?_push_of_some ob (stg b o q)
 ·refine fr.of_keeps fun b o q n=>?_
  obtain ⟨sl',q'⟩:=sl.2.2 b o q
  exact ⟨{ o with slots:=sl' },by rw [Heap.get?_update_other _ _ (Ne.symm (nE b o q n))];exact Heap.get?_push_of_some ob q',rfl⟩
 ·refine ⟨_,_,Heap.get?_update_self _ ep (Obj.isFreed_of_fields (Obj.data_mapFields hd _)),(Obj.cls_mapFields _ _).trans hc,Obj.data_mapFields hd _,?_,g.objs.size,ob,_,?_,stg.fresh,nTe,?_,obd,ob3⟩
  ·rw [Array.getElem?_setIfInBounds_ne (by decide)];exact h2
  ·simp [h1]
  ·rw [Heap.get?_update_other _ _ (Ne.symm nTe)]
   exact Heap.get?_push_size g obf
 ·intro b o q n
  obtain ⟨sl',q'⟩:=sl.2.2 b o q
  exact ⟨sl',by rw [Heap.get?_update_other _ _ (Ne.symm (nE b o q n))];exact Heap.get?_push_of_some ob q'⟩
theorem JX{m:Option Value}{Q:Unit->Shared->Prop}(hfr:A.frames=some (env::outer))(hf:env.frame=some L)(F:Fly B (env::outer) e cls cx m s.heap)(hm:m=none\/m=some Value.none)
 (k:∀ h',Fly B (env::outer) e cls cx (some (rawInt L)) h'->s.heap.UpToSlots h'->Q () { s with heap:=h' }):wpAny M A (noteFrame (.ref e) env) Q E s:=by
 obtain ⟨oe,vs,he,hc,hd,h2,tr⟩:=F.exc
 have z1:1<vs.size:=by have:=(Array.getElem?_eq_some_iff.mp h2).1;omega
 unfold noteFrame
 simp only [hf]
 rcases hm with rfl|rfl
 ·have h1:vs[1]?=some Value.none:=tr
  refine wpAny_bind (wpAny_field he hd h1 ?_)
  have hn:¬ (Value.none !=Value.none)=true:=by decide
  rw [if_neg hn]
  exact Hu hfr hf F.sE F.new F.frames he hc hd z1 h2 k
 ·obtain ⟨T,oT,ts,h1,hT0,hTe,hT,hdT,h3⟩:=tr
  refine wpAny_bind (wpAny_field he hd h1 ?_)
  have hne:(Value.ref T !=Value.none)=true:=by simp
  rw [if_pos hne]
  refine wpAny_bind (wpAny_field hT hdT h3 ?_)
  have hnr:¬ (Value.none==rawInt L)=true:=by simp [rawInt]
  rw [if_neg hnr]
  refine wpAny_bind (wpAny_setField hT hdT (Array.getElem?_eq_some_iff.mp h3).1 ?_)
  have ot:∀ b,b≠T->(s.heap.update T (Obj.mapFields (·.setIfInBounds 3 Value.none))).get? b=s.heap.get? b:=fun b hb=>Heap.get?_update_other _ _ (Ne.symm hb)
  have nT:∀ b o,s.heap.get? b=some o->(∀ ws,o.data≠.fields ws)->b≠T:=by
   intro b o q n z
   subst z
   have:=q.symm.trans hT
   cases this
   exact n ts hdT
  refine Hu (s:={ s with heap:=s.heap.update T (Obj.mapFields (·.setIfInBounds 3 Value.none)) }) hfr hf (fun b o q=>?_) F.new (F.frames.of_keeps fun b o q n=>⟨o,by rw [ot b (nT b o q n)];exact q,rfl⟩) (by rw [ot e (Ne.symm hTe)];exact he) hc hd z1 h2 fun h' F' U'=>k h' F' fun b o q n=>U' b o (by show (s.heap.update T _).get? b=_;rw [ot b (nT b o q n)];exact q) n
  have:b≠T:=fun z=>by rw [z,hT0] at q;cases q
  show (s.heap.update T _).get? b=_
  rw [ot b this]
  exact F.sE b o q
theorem Fly.drop{m:Option Value}{h:Heap}(F:Fly B (env::outer) e cls cx m h):Fly B outer e cls cx m h:=⟨F.sE,F.new,F.frames.2.2,F.exc⟩
theorem Hc{m:Option Value}{Q:Unit->Shared->Prop}(hfr:A.frames=some (env::outer))(hf:env.frame=some L)(F:Fly B (env::outer) e cls cx m s.heap)(hm:m=none\/m=some Value.none)
 (k:∀ h',Fly B outer e cls cx (some Value.none) h'->s.heap.UpToSlots h'->Q () { s with heap:=h' }):wpAny M A (leaving env (.ref e)) Q E s:=by
 unfold leaving
 refine wpAny_bind (JX hfr hf F hm fun h1 F1 U1=>?_)
 exact Bp (s:={ s with heap:=h1 }) F1 fun h2 F2 U2=>k h2 F2.drop (U1.trans U2)
end
def Pd:Value->Option Addr
 | .none=>none
 | .ref a=>some a
 | _=>some 0
structure Fl(P:Program)(w:World)(outer:List Env)(H:Hp)(s:Shared)(H':Hp)(e:Addr)(cls cx:Value)(s':Shared):Prop where
 os:s'.os=s.os
 bare:AllBare s'.gens
 un:Un (rS outer) [] H H' s.heap s'.heap
 fly:∃ B:Heap,sS P w H' B/\(∀ b o,s.heap.get? b=some o->H b=none->b∉rS outer->B.get? b=some o) ∧
  (∀ b o,s.heap.get? b=some o->b∉rS outer->∃ o',B.get? b=some o')/\Fly B outer e cls cx (some .none) s'.heap
def nG(P:Program)(w:World):CXT:=fun outer H s E e s'=>∃ ea cls cx H',e=.ref ea/\Fl P w outer H s H' ea cls cx s'/\E cls (Pd cx) H'
structure J4(X:Cx):Prop where
 st:X.stack=X.env::X.outer
 fr:X.env.frame=some X.env.locals
 ex:X.ex=[]
section
variable {X:Cx}{pins:List (Addr×Obj)}{σ:St}{H H':Hp}{s s1:Shared}{B h2:Heap}{e:Addr}{cls cx:Value}{E:XK}
theorem J4.rS(T:J4 X):L2.rS X.stack=X.env.locals::L2.rS X.outer:=by
 rw [T.st]
 unfold L2.rS
 rw [List.filterMap_cons,T.fr]
theorem MG(I:bN X pins σ H s)(T:J4 X)(os:s1.os=s.os)(bare:AllBare s1.gens)(U:Un (rS X.stack) [] H H' s.heap s1.heap)(ok:sS X.prog X.w H' B)
 (b1:∀ b o,s.heap.get? b=some o->H b=none->b∉rS X.stack->B.get? b=some o) (b2:∀ b o,s.heap.get? b=some o->b∉rS X.stack->∃ o',B.get? b=some o')
 (F:Fly B X.outer e cls cx (some .none) h2) (U2:s1.heap.UpToSlots h2):Fl X.prog X.w X.outer X.H_0 X.DO H' e cls cx { s1 with heap:=h2 }:=by
 have nin:∀ b o,X.DO.heap.get? b=some o->b∉rS X.outer->b∉rS X.stack:=by
  intro b o q n m
  rw [T.rS] at m
  rcases mem_cons.mp m with z|z
  ·exact absurd (Nat.lt_of_lt_of_le (Heap.lt_size q) I.ok.above) (by rw [z];exact Nat.lt_irrefl _)
  ·exact n z
 have inn:∀ b,b∈rS X.outer->b∈rS X.stack:=fun b m=>by rw [T.rS];exact mem_cons_of_mem _ m
 have nex:∀ b:Addr,b∉X.ex:=fun b m=>by rw [T.ex] at m;cases m
 have slot:∀ b o,X.DO.heap.get? b=some o->b∈rS X.outer->∃ sl,h2.get? b=some { o with slots:=sl }:=by
  intro b o q m
  have n0:=I.ok.frf b m
  obtain ⟨sl1,q1⟩:=I.base.slot b o q n0 m (nex b)
  have n1:=I.base.free b o q n0 (nex b)
  obtain ⟨_,o',q1',nf⟩:=I.stack.mem (inn b m)
  have e1:=q1.symm.trans q1'
  cases e1
  obtain ⟨sl2,q2⟩:=U.slot b _ q1 n1 (inn b m) (by simp)
  obtain ⟨sl3,q3⟩:=U2 b _ q2 nf
  exact ⟨sl3,q3⟩
 refine ⟨os.trans I.os,bare,⟨?_,?_,?_,?_,?_,?_,?_⟩,B,ok,?_,?_,F⟩
 ·intro b o q n m _
  exact F.sE b o (b1 b o (I.base.keep b o q n m (nex b)) (I.base.free b o q n (nex b)) (nin b o q m))
 ·intro b o q _ m _
  exact slot b o q m
 ·intro b o q n _
  obtain ⟨sl1,q1⟩:=I.base.any q n (nex b)
  exact U.free b _ q1 (I.base.free b o q n (nex b)) (by simp)
 ·intro b o q _
  by_cases m:b∈rS X.outer
  ·obtain ⟨sl,z⟩:=slot b o q m
   exact ⟨_,z⟩
  ·obtain ⟨o1,q1⟩:=I.base.there b o q (nex b)
   obtain ⟨o2,q2⟩:=b2 b o1 q1 (nin b o q m)
   exact ⟨o2,F.sE b o2 q2⟩
 ·intro b xs q
  exact U.DT b xs (I.base.DT b xs q)
 ·intro b o u q
  exact U.Ar b o u (I.base.Ar b o u q)
 ·intro b ps q
  obtain ⟨m1,q1⟩:=I.base.DP b ps q
  obtain ⟨m2,q2⟩:=U.DP b _ q1
  exact ⟨m1++m2,by rw [q2,Array.append_assoc]⟩
 ·intro b o q n m
  exact b1 b o (I.base.keep b o q n m (nex b)) (I.base.free b o q n (nex b)) (nin b o q m)
 ·intro b o q m
  obtain ⟨o1,q1⟩:=I.base.there b o q (nex b)
  exact b2 b o1 q1 (nin b o q m)
theorem Px(I:bN X pins σ H s)(T:J4 X){oe:Obj}{vs:Array Value}{M:Model}{A:Around}{E':Value->Shared->Prop}{Q:Unit->Shared->Prop}(hA:A.frames=some X.stack)(kp:∀ b o,s.heap.get? b=some o->s1.heap.get? b=some o)(new:s.heap.get? e=none)(he:s1.heap.get? e=some oe)(hd:oe.data=.fields vs)
 (h1:vs[1]?=some Value.none) (h2:vs[2]?=some cx) (os:s1.os=s.os) (bare:AllBare s1.gens) (k:∀ h3,Fl X.prog X.w X.outer X.H_0 X.DO H e oe.cls cx { s1 with heap:=h3 }->Q () { s1 with heap:=h3 }):wpAny M A (leaving X.env (.ref e)) Q E' s1:=by
 have hin:∀ env∈X.stack,∀ a,env.frame=some a->a∈rS X.stack:=fun env m a q=>List.mem_filterMap.mpr ⟨env,m,q⟩
 have fr:=PySem.W.funFrames_hide (as:=rS X.stack) I.stack hin
 have st:(hideAll s.heap (rS X.stack)).StaysIn s1.heap:=fun b o q=>kp b o (PySem.W.of_hideAll _ q)
 have nw:(hideAll s.heap (rS X.stack)).get? e=none:=by
  cases q:(hideAll s.heap (rS X.stack)).get? e with
  | none=>rfl
  | some o=>have:=PySem.W.of_hideAll _ q;rw [new] at this;cases this
 have F:Fly (hideAll s.heap (rS X.stack)) (X.env::X.outer) e oe.cls cx none s1.heap :=
  ⟨st,nw,by rw [<-T.st];exact fr.of_keeps fun b o q _=>⟨o,kp b o q,rfl⟩,oe,vs,he,rfl,hd,h2,h1⟩
 refine Hc (by rw [hA,T.st]) T.fr F (.inl rfl) fun h3 F3 U3=>k h3 ?_
 refine MG I T os bare (Un.kept kp) (fun a o q=>?_) (fun b o q n m=>hideAll_get _ q m) (fun b o q m=>⟨o,hideAll_get _ q m⟩) F3 U3
 have sub:∀ b v,(H b).isSome=true->s.heap.get? b=some v->(hideAll s.heap (rS X.stack)).get? b=some v:=fun b v hb q=>hideAll_get _ q fun m=>by
  rw [I.D8 b m] at hb;cases hb
 refine (I.eE a o q).sE (fun b v hb qv=>sub b v ?_ qv) (fun _ z=>z) fun _ _ z=>z
 rcases hb with z|z
 ·rw [z,q];rfl
 ·rw [z];rfl
theorem Qa(I:bN X pins σ H s)(T:J4 X){M:Model}{A:Around}{E':Value->Shared->Prop}{Q:Unit->Shared->Prop}(hA:A.frames=some X.stack)(G:Fl X.prog X.w X.stack H s H' e cls cx s1)
 (k:∀ h3,Fl X.prog X.w X.outer X.H_0 X.DO H' e cls cx { s1 with heap:=h3 }->Q () { s1 with heap:=h3 }):wpAny M A (leaving X.env (.ref e)) Q E' s1:=by
 obtain ⟨B,ok,b1,b2,F⟩:=G.fly
 rw [T.st] at F
 exact Hc (by rw [hA,T.st]) T.fr F (.inr rfl) fun h3 F3 U3=>k h3 (MG I T G.os G.bare G.un ok b1 b2 F3 U3)
def AZ(X:Cx)(E:XK):Prop:=∀ (pins:List (Addr×Obj)) (σ:St) (H:Hp) (s s1:Shared) (e:Addr) (oe:Obj) (vs:Array Value) (cx:Value),bN X pins σ H s->(∀ b o,s.heap.get? b=some o->s1.heap.get? b=some o)->s.heap.get? e=none →
 s1.heap.get? e=some oe->oe.data=.fields vs->vs[1]?=some Value.none->vs[2]?=some cx->s1.os=s.os->AllBare s1.gens->E oe.cls (Pd cx) H->X.xe (.ref e) s1
end
section
variable {P:Program}{w:World}{K:Frag}{mg:Str->Option Value}{base:Heap}{N:List Str}{qual:Str}{scope:Scope}{f:Addr}{cd:Value}{A:Around}{outer:List Env}{s:Shared}{H:Hp}{E:XK}
theorem Ec:J4 (uH (nG P w) P w K mg base N qual scope f cd A outer s H E):=⟨rfl,rfl,rfl⟩
theorem eG:AZ (uH (nG P w) P w K mg base N qual scope f cd A outer s H E) E:=by
 intro pins σ H1 s0 s1 e oe vs cx I kp new he hd h1 h2 os bare hE
 exact Px I Ec I.ok.frames kp new he hd h1 h2 os bare fun h3 F=>⟨e,_,cx,H1,rfl,F,hE⟩
theorem aX:lA (nG P w) (uH (nG P w) P w K mg base N qual scope f cd A outer s H E) E:=by
 intro pins σ H1 s0 e s1 I h
 obtain ⟨ea,cls,cx,H',rfl,F,hE⟩:=h
 exact Qa I Ec I.ok.frames F fun h3 F3=>⟨ea,cls,cx,H',rfl,F3,hE⟩
theorem EU:PassesOwn (model P w) (uH (nG P w) P w K mg base N qual scope f cd A outer s H E).A (uH (nG P w) P w K mg base N qual scope f cd A outer s H E).env (uH (nG P w) P w K mg base N qual scope f cd A outer s H E).xe:=PassesOwn.leaving
end
section
variable {X:Cx}{E:XK}{x:Str}{C:Addr}{bmB:List Value}{newId Bn initId:String}{m:Str}{j:Nat}{p np cpos pos:Pos}
theorem Oz(hR:AZ X E)(hh:X.A.handled=none)(hg:Gl X x)(O:OwnCls x C bmB newId X.mg X.base)(FB:ExcBaseFacts Bn newId initId bmB)(hd:(x==("__debug__":Str))=false:=by decide) :
 PS X (.Raise (some (.Call (.Name x np) [.Constant (.str m) j p] [] cpos)) none pos) (fun _ _ H=>E (.ref C) none H):=by
 intro pins s σ H D I hE
 obtain ⟨tl,N,nm,q,bs,hdct,sn,sub,ab,col,dd,k0,k1,k2,k3,k5,mN,hC,hN,hni,T⟩:=O.obj
 refine wpAny_Raise_call_subT (C:=C) (nm:=nm) (q:=q) (N:=N) (bs:=bs) (bm:=tl) (hdct:=hdct) (sn:=sn) (sub:=sub) (ab:=ab) (col:=col) (dd:=dd) (k0:=k0) (k1:=k1) (k2:=k2) (k3:=k3) (k5:=k5)
  FB (mN:=mN) (T.hasType FB.hasBase) hh rfl hni (nQ I hg O.bound ⟨rfl,?_⟩ hd)
 have a:PA X [.Constant (.str m) j p] (HC (tC (.str m)) Gb):=aA OI aF
 refine Calls.evalArgs_plain (wpAny_mono (a cpos pins s σ H (fun vs H'=>vs=[V.str m]/\H'=H) I ⟨rfl,rfl⟩) (fun us s2 z=>?_) fun _ _ z=>z)
 obtain ⟨vs,H',I2,rv,rfl,rfl⟩:=z
 refine ⟨rfl,?_,I2.bk _ _ hC,hN.keeps I2.bk,T.keeps I2.bk,fun h' e hm=>?_⟩
 ·show us.length<=sizeLine
  rw [<-rv.length]
  show 1<=sizeLine
  decide
 ·obtain ⟨t,he,_,_⟩:=hm.there
  exact hR pins σ _ s2 { s2 with heap:=h' } e _ _ .none I2 hm.keeps hm.new he rfl rfl rfl rfl I2.bare hE
end
section
variable {X:Cx}{pins:List (Addr×Obj)}{σ:St}{H H':Hp}{s s1:Shared}{B:Heap}{e:Addr}{cls cx:Value}{E:XK}
theorem Fl.inv(I:bN X pins σ H s)(G:Fl X.prog X.w X.stack H s H' e cls cx s1):bN X pins σ H' s1:=by
 obtain ⟨B,ok,_,_,F⟩:=G.fly
 exact I.QE G.os G.un (ok.kept F.sE) G.bare (ch:=[]) fun b z=>by cases z
theorem Fl.turn(I:bN X pins σ H s)(G:Fl X.prog X.w X.stack H s H' e cls cx s1)(B:Heap)(ok:sS X.prog X.w H' B)(b1:∀ b o,s.heap.get? b=some o->H b=none->b∉rS X.stack->B.get? b=some o)
 (b2:∀ b o,s.heap.get? b=some o->b∉rS X.stack->∃ o',B.get? b=some o') (F1:s1.heap.FunFrames B X.stack) {h2:Heap} (F2:Fly B X.stack e cls cx (some .none) h2) (U2:s1.heap.UpToSlots h2):Fl X.prog X.w X.stack H s H' e cls cx { s1 with heap:=h2 }:=by
 have slot:∀ b o,s.heap.get? b=some o->b∈rS X.stack->∃ sl,h2.get? b=some { o with slots:=sl }:=by
  intro b o q m
  obtain ⟨sl,q1⟩:=G.un.slot b o q (I.D8 b m) m (by simp)
  obtain ⟨_,o',q2,nf⟩:=F1.mem m
  have e1:=q1.symm.trans q2
  cases e1
  obtain ⟨sl3,q3⟩:=U2 b _ q1 nf
  exact ⟨sl3,q3⟩
 refine ⟨G.os,G.bare,⟨?_,?_,G.un.free,?_,G.un.DT,G.un.Ar,G.un.DP⟩,B,ok,b1,b2,F2⟩
 ·intro b o q n m _
  exact F2.sE b o (b1 b o q n m)
 ·intro b o q _ m _
  exact slot b o q m
 ·intro b o q _
  by_cases m:b∈rS X.stack
  ·obtain ⟨sl,z⟩:=slot b o q m
   exact ⟨_,z⟩
  ·obtain ⟨o2,q2⟩:=b2 b o q m
   exact ⟨o2,F2.sE b o2 q2⟩
def PH(X:Cx)(hs:List ExceptHandler)(r:vT->St->Value->Option Addr->Hp->Prop):Prop :=
 ∀ (pins:List (Addr×Obj)) (s s1:Shared) (σ:St) (H H':Hp) (D:vT) (e:Addr) (cls cx:Value),bN X pins σ H s->Fl X.prog X.w X.stack H s H' e cls cx s1->r D σ cls (Pd cx) H' →
  wpAny (model X.prog X.w) X.A (handleBy (.ref e) X.env hs) (SP X pins D) X.xe s1
theorem Qs{Q:Flow->Shared->Prop}{hs:List ExceptHandler}(T:J4 X)(I:bN X pins σ H s)(G:Fl X.prog X.w X.stack H s H' e cls cx s1)
 (k:∀ s2,Fl X.prog X.w X.stack H s H' e cls cx s2->wpAny (model X.prog X.w) X.A (handleBy (.ref e) X.env hs) Q X.xe s2) :
 wpAny (model X.prog X.w) X.A (noteFrame (.ref e) X.env) (fun _ s₂=>wpAny (model X.prog X.w) X.A (setFlight (.ref e) none) (fun _ s₃=>wpAny (model X.prog X.w) X.A (handleBy (.ref e) X.env hs) Q X.xe s₃) X.xe s₂) X.xe s1:=by
 obtain ⟨B,ok,b1,b2,F⟩:=G.fly
 have F0:=F
 rw [T.st] at F
 refine JX (by rw [I.ok.frames,T.st]) T.fr F (.inr rfl) fun h1 F1 U1=>?_
 refine Bp (s:={ s1 with heap:=h1 }) F1 fun h2 F2 U2=>?_
 refine k _ (G.turn I B ok b1 b2 F0.frames (by rw [T.st];exact F2) (U1.trans U2))
theorem bN.mark(I:bN X pins σ H s)(v:Option Value):bN { X with A:=X.A.mark v,calm:=false } pins σ H s :=
 ⟨⟨I.ok.mod,I.ok.kind,I.ok.glob,I.ok.blt,I.ok.above,I.ok.inj,I.ok.has,I.ok.cab,fun z=>Bool.noConfusion z,I.ok.frames,I.ok.stk,I.ok.exf,I.ok.bs,I.ok.bsz,I.ok.Jx,I.ok.JH,I.ok.xF,I.ok.frf⟩,
  I.os,I.bare,I.base,I.loc,I.cell,I.free,I.mP,I.pin,I.eE,I.len⟩
theorem bN.unmark{v:Option Value}(J:X.calm=true->X.A.handled=none)(F:X.A.frames=some X.stack)(I:bN { X with A:=X.A.mark v,calm:=false } pins σ H s):bN X pins σ H s :=
 ⟨⟨I.ok.mod,I.ok.kind,I.ok.glob,I.ok.blt,I.ok.above,I.ok.inj,I.ok.has,I.ok.cab,J,F,I.ok.stk,I.ok.exf,I.ok.bs,I.ok.bsz,I.ok.Jx,I.ok.JH,I.ok.xF,I.ok.frf⟩,
  I.os,I.bare,I.base,I.loc,I.cell,I.free,I.mP,I.pin,I.eE,I.len⟩
theorem SP.unmark{v:Option Value}{D:vT}{f:Flow}(J:X.calm=true->X.A.handled=none)(F:X.A.frames=some X.stack)(h:SP { X with A:=X.A.mark v,calm:=false } pins D f s):SP X pins D f s:=by
 cases f with
 | next=>obtain ⟨a,b,I,q⟩:=h;exact ⟨a,b,I.unmark J F,q⟩
 | brk=>obtain ⟨a,b,I,q⟩:=h;exact ⟨a,b,I.unmark J F,q⟩
 | cont=>obtain ⟨a,b,I,q⟩:=h;exact ⟨a,b,I.unmark J F,q⟩
 | ret u=>obtain ⟨c,a,b,I,r,q⟩:=h;exact ⟨c,a,b,I.unmark J F,r,q⟩
variable {x:Str}{C:Addr}{np pos:Pos}{b0:Stmt}{suite:List Stmt}{rest:List ExceptHandler}{ts:TS}{r:vT->St->Value->Option Addr->Hp->Prop}
theorem EE{M:Model}{h:Heap}(F:Fly B (X.stack) e cls cx (some .none) h):PySem.W.Looks M h (typeOf (.ref e)) cls:=by
 obtain ⟨oe,vs,he,hc,_⟩:=F.exc
 subst hc
 exact (PySem.W.Looks.ld he).andThen .now
theorem DZ(hg:Gl X x)(hm:X.mg x=some (.ref C))(hE:∀ e,PassesOwnAt (model X.prog X.w) (X.A.mark (some (.ref e))) X.A X.env X.xe)
 (hs:∀ e:Addr,PSs { X with A:=X.A.mark (some (.ref e)),calm:=false } (b0::suite) ts) (hr:PH X rest r) (hd:(x==("__debug__":Str))=false:=by decide) :
 PH X (.ExceptHandler (some (.Name x np)) none (b0::suite) pos::rest) (fun D σ cls a H=>(exmOne X.K cls (.ref C)=some true/\ts D σ H)\/(exmOne X.K cls (.ref C)=some false/\r D σ cls a H)):=by
 intro pins s s1 σ H H' D e cls cx I G q
 obtain ⟨B,ok,b1,b2,F⟩:=G.fly
 have I1:=G.inv I
 refine wpAny_handleBy_cons (codeAny_handlers_test (nQ (X:={ X with A:=X.A.mark (some (.ref e)),calm:=false }) (I1.mark (some (.ref e))) hg hm ?_ hd)) (by intro z;cases z)
 have LT:=EE (X:=X) (M:=model X.prog X.w) F
 rcases q with ⟨z,q⟩|⟨z,q⟩
 ·refine (PySem.W.exm_one (I1.kIn) LT z).here (codeAny_handlers_suite ?_)
  refine Bp F fun h2 F2 U2=>?_
  have G2:=G.turn I B ok b1 b2 F.frames F2 U2
  have I2:=G2.inv I
  refine wpAny_passesOwnAt (hE e) (wpAny_mono (hs e pins _ σ H' D (I2.mark _) q) (fun f s3 w3=>w3.unmark I.ok.hd I.ok.frames) fun _ _ w3=>w3)
 ·exact (PySem.W.exm_one (I1.kIn) LT z).here (hr pins s s1 σ H H' D e cls cx I G q)
theorem Ra:PH X [] (fun _ _ _ _ _=>False):=fun _ _ _ _ _ _ _ _ _ _ _ _ q=>q.elim
theorem O7{body:List Stmt}{h0:ExceptHandler}{hs:List ExceptHandler}{tb:XK->TS}(T:J4 X)
 (hb:∀ (pn:List (Addr×Obj)) (W:Value->Shared->Prop) (E:XK),lA (nG X.prog X.w) { X with pn:=pn,xe:=W } E->PSs { X with pn:=pn,xe:=W } body (tb E)) (hh:PH X (h0::hs) r) :
 PS X (.Try body (h0::hs) [] [] pos) (fun D σ H=>tb (fun cls a H'=>∀ σ',r D σ' cls a H') D σ H):=by
 intro pins s σ H D I q
 refine wpAny_Try_except ?_
 have W:Value->Shared->Prop:=fun _ _=>True
 have toP:∀ {E:Value->Shared->Prop} {ps:List (Addr×Obj)} {σ:St} {H:Hp} {s:Shared},bN { X with pn:=X.pn++pins,xe:=E } ps σ H s->bN X pins σ H s:=fun {E ps σ H s} J =>
  ⟨⟨J.ok.mod,J.ok.kind,J.ok.glob,J.ok.blt,J.ok.above,J.ok.inj,J.ok.has,J.ok.cab,J.ok.hd,J.ok.frames,J.ok.stk,J.ok.exf,J.ok.bs,J.ok.bsz,J.ok.Jx,J.ok.JH,J.ok.xF,J.ok.frf⟩,
   J.os,J.bare,J.base,J.loc,J.cell,J.free,J.mP,fun p hp=>J.pin p (List.mem_append_left _ hp),J.eE,J.len⟩
 have ofP:∀ {E:Value->Shared->Prop} {σ:St} {H:Hp} {s:Shared},bN X pins σ H s->bN { X with pn:=X.pn++pins,xe:=E } [] σ H s:=fun {E σ H s} J =>
  ⟨⟨J.ok.mod,J.ok.kind,J.ok.glob,J.ok.blt,J.ok.above,J.ok.inj,J.ok.has,J.ok.cab,J.ok.hd,J.ok.frames,J.ok.stk,J.ok.exf,J.ok.bs,J.ok.bsz,J.ok.Jx,J.ok.JH,J.ok.xF,J.ok.frf⟩,
   J.os,J.bare,J.base,J.loc,J.cell,J.free,J.mP,fun p hp=>J.pin p (by rcases mem_append.mp hp with z|z;exact z;cases z),J.eE,J.len⟩
 have key:=hb (X.pn++pins) (fun e s1=>∃ ea cls cx σ' H0 H' s0,e=.ref ea/\bN X pins σ' H0 s0/\Fl X.prog X.w X.stack H0 s0 H' ea cls cx s1/\r D σ' cls (Pd cx) H') (fun cls a H'=>∀ σ',r D σ' cls a H')
  (fun ps σ' H0 s0 e s1 J z=>by
   obtain ⟨ea,cls,cx,H',rfl,F,hq⟩:=z
   exact ⟨ea,cls,cx,σ',H0,H',s0,rfl,toP J,F,hq σ'⟩)
 refine wpAny_mono (key [] s σ H D (ofP I) q) (fun f s1 w1=>?_) fun e s1 w1=>?_
 ·cases f with
  | next=>obtain ⟨a,b,J,q⟩:=w1;exact wpAny_execs_nil ⟨a,b,toP J,q⟩
  | brk=>obtain ⟨a,b,J,q⟩:=w1;exact ⟨a,b,toP J,q⟩
  | cont=>obtain ⟨a,b,J,q⟩:=w1;exact ⟨a,b,toP J,q⟩
  | ret u=>obtain ⟨c,a,b,J,rv,q⟩:=w1;exact ⟨c,a,b,toP J,rv,q⟩
 ·obtain ⟨ea,cls,cx,σ',H0,H',s0,rfl,J,G,hq⟩:=w1
  exact Qs T J G fun s2 G2=>hh pins s0 s2 σ' H0 H' D ea cls cx J G2 hq
end
theorem GC:entryFor table "proto.unchain"=some Builtin.«proto.unchain»:=entryFor_of_tree (by kernel_rfl)
section
variable {prog:Program}{w:World}{A:Around}{Q:Value->Shared->Prop}{E:Value->Shared->Prop}{s:Shared}{e e0:Addr}{oe o0:Obj}{vs v0:Array Value}
theorem Kc{α:Type}{Q:α->Shared->Prop}(hh:A.handled=some (.ref e0))(ne:e0≠e)(h0:s.heap.get? e0=some o0)(d0:o0.data=.fields v0)(c0:v0[2]?=some Value.none)
 (he:s.heap.get? e=some oe) (hd:oe.data=.fields vs) (hz:2<vs.size) (k:E (.ref e) { s with heap:=s.heap.update e (Obj.mapFields (·.setIfInBounds 2 (.ref e0))) }):wpAny (model prog w) A (raiseNew (.ref e):Sem α) Q E s:=by
 unfold raiseNew
 refine wpAny_bind (wpAny_handled ?_)
 rw [hh]
 simp only
 have hn:((Value.ref e0) !=Value.ref e)=true:=by simpa using ne
 rw [if_pos hn]
 refine wpAny_bind (wpAny_holding (wpAny_runValue (codeAny_builtin GC ?_)))
 unfold Builtin.«proto.unchain»
 simp only
 refine wpAny_bind (wpAny_field h0 d0 c0 ?_)
 have hz0:(Value.none==Value.none)=true:=by decide
 rw [if_pos hz0]
 refine wpAny_pure ?_
 exact wpAny_bind (show wpAny (model prog w) A (setField (.ref e) 2 (.ref e0)) _ E s from wpAny_setField he hd hz (wpAny_throw k))
end
section
variable {prog:Program}{w:World}{A:Around}{E:Value->Shared->Prop}{s:Shared}{env:Env}
variable {nm q:Str}{C N e0:Addr}{bs bm bmB:List Value}{hdct:Bool}{sn:List Str}{sub:List Value}{ab:Bool}{col:Option Bool}{dd:Option Addr}{k0 k1 k2 k3 k5:Option Value}{B newId initId:String}
theorem KS(F:ExcBaseFacts B newId initId bmB){mN:Str->Option Value}{x:Str}{np cpos pos:Pos}{args:List Expr}{Q:Flow->Shared->Prop}
 (hbase:bm.contains (.type "BaseException")=true) (hh:A.handled=some (.ref e0)) (hplain:(backTo cpos (starEach args env)).any (·.1)=false) (hni:mN "__init__"=none)
 (h:wpAny (model prog w) A (eval (.Name x np) env) (fun f s₁=>f=.ref C/\wpAny (model prog w) A (evalArgs (.ref C) true (backTo cpos (starEach args env)) [])
  (fun a s₂=>a.kw=[]/\a.pos.length<=sizeLine/\s₂.heap.get? C=some (excClassObj nm q C N bs bm hdct sn sub ab col dd k0 k1 k2 k3 k5 newId)/\s₂.heap.Ns N mN/\OwnTail s₂.heap bmB bm ∧
   (∃ o0 v0,s₂.heap.get? e0=some o0/\o0.data=.fields v0/\v0[2]?=some Value.none) ∧
   ∀ h' e oe vs,Heap.MadeExcOf s₂.heap h' e (.ref C) a.pos->h'.get? e=some oe->oe.data=.fields vs->vs[1]?=some Value.none->2<vs.size->oe.cls=.ref C->E (.ref e) { s₂ with heap:=h'.update e (Obj.mapFields (·.setIfInBounds 2 (.ref e0))) }) E s₁) E s) :
 wpAny (model prog w) A (exec (.Raise (some (.Call (.Name x np) args [] cpos)) none pos) env) Q E s:=by
 have hcB:(Value.ref C::bm).contains (.type "BaseException")=true:=by
  rw [List.contains_cons,hbase,Bool.or_true]
 have made:wpAny (model prog w) A (eval (.Call (.Name x np) args [] cpos) env) (fun v s3=>∃ e t o0 v0,v=.ref e/\s3.heap.get? C=some (excClassObj nm q C N bs bm hdct sn sub ab col dd k0 k1 k2 k3 k5 newId) ∧
  s3.heap.get? e=some { cls:=.ref C,data:=.fields #[.ref t,.none,.none,.none,.bool false,.none] }/\e0≠e/\s3.heap.get? e0=some o0/\o0.data=.fields v0/\v0[2]?=some Value.none ∧
  E (.ref e) { s3 with heap:=s3.heap.update e (Obj.mapFields (·.setIfInBounds 2 (.ref e0))) }) E s:=by
  refine wpAny_Call_ofName (wpAny_mono h (fun f sa ha=>?_) fun _ _ z=>z)
  obtain ⟨rfl,ha⟩:=ha
  unfold callWith
  refine wpAny_bind (wpAny_holding (wpAny_mono ha (fun a sb hb=>wpAny_bind (wpAny_standAt ?_)) fun _ _ z=>z))
  obtain ⟨ap,ak⟩:=a
  obtain ⟨hkw,hlen,hC,hn,hT,⟨o0,v0,a1,a2,a3⟩,hb⟩:=hb
  have hkw:ak=[]:=hkw
  subst hkw
  obtain ⟨hp,g,d,tk,os⟩:=sb
  simp only [hplain]
  refine wpAny_bind (wpAny_keeperOf_exc hC ?_)
  refine wpAny_bind (wpAny_call_exc_subT (hrest:=hlen) F hT hC hn hni fun hq e hm=>?_)
  refine wpAny_bind (wpAny_holding (wpAny_point (wpAny_pure ?_)))
  obtain ⟨t,he,_,_⟩:=hm.there
  refine ⟨e,t,o0,v0,rfl,hm.keeps _ _ hC,he,fun z=>?_,hm.keeps _ _ a1,a2,a3,hb hq e _ _ hm he rfl rfl (by show 2<6;decide) rfl⟩
  have:=hm.new
  rw [<-z] at this
  rw [a1] at this
  cases this
 rw [arm_exec_Raise]
 refine wpAny_bind (wpAny_standAt ?_)
 unfold raiseStmt
 simp only [evalOpt,Option.map]
 refine wpAny_bind (wpAny_bind (wpAny_mono made (fun v s3 h3=>wpAny_bind (wpAny_standAt (wpAny_pure ?_))) fun _ _ z=>z))
 obtain ⟨e,t,o0,v0,rfl,hC,he,hne,a1,a2,a3,hE⟩:=h3
 obtain ⟨hp,g,d,tk,os⟩:=s3
 repeat (first
  | with_reducible refine wpAny_loadPart_at he ?_
  | with_reducible refine wpAny_loadPart_at hC ?_
  | (with_reducible refine wpAny_isSubtype_exc hC ?_;rw [hcB])
  | wp_step)
 exact Kc hh hne a1 a2 a3 he rfl (by show 2<6;decide) hE
end
section
variable {X:Cx}{E:XK}{x x2:Str}{C C2:Addr}{bmB:List Value}{newId Bn initId:String}{m:Str}{j:Nat}{p np np2 cpos pos rpos:Pos}{rest:List ExceptHandler}
theorem Ox{cx:Value}(h:Pd cx=none):cx=.none:=by
 cases cx<;>first|rfl|cases h
theorem N5(hg:Gl X x)(hm:X.mg x=some (.ref C))(hE:∀ e,PassesOwnAt (model X.prog X.w) (X.A.mark (some (.ref e))) X.A X.env X.xe)(hR:AZ X E)
 (hg2:Gl X x2) (O:OwnCls x2 C2 bmB newId X.mg X.base) (FB:ExcBaseFacts Bn newId initId bmB) (hd:(x==("__debug__":Str))=false:=by decide) (hd2:(x2==("__debug__":Str))=false:=by decide) :
 PH X (.ExceptHandler (some (.Name x np)) none [.Raise (some (.Call (.Name x2 np2) [.Constant (.str m) j p] [] cpos)) none rpos] pos::rest)
  (fun _ _ cls a H=>exmOne X.K cls (.ref C)=some true/\a=none/\∀ ea,E (.ref C2) (some ea) H):=by
 intro pins s s1 σ H H' D e cls cx I G q
 obtain ⟨z,hc,q⟩:=q
 have hc:=Ox hc
 subst hc
 obtain ⟨B,ok,b1,b2,F⟩:=G.fly
 have I1:=G.inv I
 refine wpAny_handleBy_cons (codeAny_handlers_test (nQ (X:={ X with A:=X.A.mark (some (.ref e)),calm:=false }) (I1.mark (some (.ref e))) hg hm ?_ hd)) (by intro z;cases z)
 have LT:=EE (X:=X) (M:=model X.prog X.w) F
 refine (PySem.W.exm_one I1.kIn LT z).here (codeAny_handlers_suite ?_)
 refine Bp F fun h2 F2 U2=>?_
 have G2:=G.turn I B ok b1 b2 F.frames F2 U2
 have I2:=G2.inv I
 refine wpAny_passesOwnAt (hE e) (wpAny_execs_cons ?_)
 obtain ⟨tl,N,nm,qq,bs,hdct,sn,sub,ab,col,dd,k0,k1,k2,k3,k5,mN,hC,hN,hni,T⟩:=O.obj
 refine KS (e0:=e) (C:=C2) (nm:=nm) (q:=qq) (N:=N) (bs:=bs) (bm:=tl) (hdct:=hdct) (sn:=sn) (sub:=sub) (ab:=ab) (col:=col) (dd:=dd) (k0:=k0) (k1:=k1) (k2:=k2) (k3:=k3) (k5:=k5)
  FB (mN:=mN) (T.hasType FB.hasBase) rfl rfl hni (nQ (X:={ X with A:=X.A.mark (some (.ref e)),calm:=false }) (I2.mark (some (.ref e))) hg2 O.bound ⟨rfl,?_⟩ hd2)
 have a:PA { X with A:=X.A.mark (some (.ref e)),calm:=false } [.Constant (.str m) j p] (HC (tC (.str m)) Gb):=aA OI aF
 obtain ⟨oe,vs,he,hc,hdd,h2',_⟩:=F2.exc
 have hev:wpAny (model X.prog X.w) (X.A.mark (some (.ref e))) (spliced (backTo cpos (starEach [.Constant (.str m) j p] X.env))) (fun us s2=>us.length=1/\s2.heap=h2/\bN X pins σ H' s2) X.xe { s1 with heap:=h2 } :=
  Calls.spliced_cons (Calls.Constant_str (k:=j) (pos:=p) (Calls.spliced_nil ⟨rfl,rfl,I2.tok _⟩))
 refine Calls.evalArgs_plain (wpAny_mono hev (fun us s2 z=>?_) fun _ _ z=>z)
 obtain ⟨hl,hh2,I3⟩:=z
 refine ⟨rfl,?_,I3.bk _ _ hC,hN.keeps I3.bk,T.keeps I3.bk,⟨oe,vs,by rw [hh2];exact he,hdd,h2'⟩,fun h' e2 oe2 vs2 hm g1 g2 g3 g4 g5=>?_⟩
 ·show us.length<=sizeLine
  rw [hl];decide
 ·refine hR pins σ H' s2 _ e2 _ _ (.ref e) I3 (fun b o qb=>?_) hm.new (Heap.get?_update_self _ g1 (Obj.isFreed_of_fields (Obj.data_mapFields g2 _))) (Obj.data_mapFields g2 _) ?_ ?_ rfl I3.bare ?_
  ·have:b≠e2:=fun zz=>by rw [zz,hm.new] at qb;cases qb
   show (h'.update e2 _).get? b=_
   rw [Heap.get?_update_other _ _ (Ne.symm this)]
   exact hm.keeps b o qb
  ·rw [Array.getElem?_setIfInBounds_ne (by decide)];exact g3
  ·simp [g4]
  ·rw [Obj.cls_mapFields,g5]
   exact q e
end
section
variable {X:Cx}{pins:List (Addr×Obj)}{σ:St}{H:Hp}{s:Shared}
def RS(t:TS):TS:=fun D σ H=>∃ d u,H d=some u/\Mut (some u)/\∀ od,t D σ (a6 H d (.mH od u))
theorem IX{st:Stmt}{t:TS}(h:PS X st t):PS X st (RS t):=by
 intro pins s σ H D I hw
 obtain ⟨d,u,hd,mu,hw⟩:=hw
 obtain ⟨od,I1⟩:=I.lock hd mu
 exact h pins s σ _ D I1 (hw od)
theorem aW{x:Str}{v:Int}{pos:Pos}(hm:∃ t,X.mg x=some (.int v t))(hg:Gl X x:=by rfl)(hd:(x==("__debug__":Str))=false:=by decide):PE X (.Name x pos) (tC (.int v)):=by
 obtain ⟨t,hm⟩:=hm
 exact MO hg hm ⟨t,rfl⟩ hd
theorem bN.Q8{l:Addr}{xs:List V}(I:bN X pins σ H s)(h:Rd H l (.lst xs)):xs.length<=sizeLine/\∃ (its:List Value) (n:Nat),b9 xs its/\xs.length=its.length/\s.heap.get? l=some { cls:=.type "list",data:=.seq its.toArray n }:=by
 obtain ⟨z,its,n,r,e⟩:=h.ok I.eE
 exact ⟨z,its,n,r,r.length,e⟩
inductive QN(x:V)(y:V)(H:Hp)(Q:VK):Prop
 | mk:∀ l b xs zs,x=.ref l->y=.ref b->Rd H l (.lst xs)->Rd H b (.lst zs)->xs.length+zs.length<=sizeLine->(∀ p,H p=none->Q (.ref p) (a6 H p (.lst (xs++zs))))->QN x y H Q
theorem eN:Dr X (binaryOp .Add) QN:=by
 intro pins s σ H x y v u Q I rx ry h
 obtain ⟨l,b,xs,zs,rfl,rfl,h1,h2,hz,q⟩:=h
 cases rx
 cases ry
 obtain ⟨_,ia,n,ra,la,ea⟩:=I.Q8 h1
 obtain ⟨_,ib,m,rb,lb,eb⟩:=I.Q8 h2
 refine PySem.P.add_list ea eb ?_ (by rw [size_toArray,size_toArray];omega)
 have eq:ia.toArray++ib.toArray=(ia++ib).toArray:=by simp
 rw [eq]
 exact ⟨.ref _,_,I.SW (t':=s.toks) (ra.append rb) (by rw [length_append];omega),rfl,q _ I.fresh⟩
inductive Kz(x:V)(vs:List V)(H:Hp)(Q:VK):Prop
 | mk:∀ l b xs zs,x=.ref l->vs=[.ref b]->H l=some (.lst xs)->Rd H b (.lst zs)->xs.length+zs.length<=sizeLine->Q .eX (a6 H l (.lst (xs++zs)))->Kz x vs H Q
theorem EO:MtM X "list.extend" Kz:=by
 intro pins s σ H x vs v us Q I rx rv h
 obtain ⟨l,b,xs,zs,rfl,rfl,h1,h2,hz,q⟩:=h
 cases rx
 obtain ⟨u,rfl,ru⟩:=rv.one
 cases ru
 obtain ⟨_,ia,n,ra,la,ea⟩:=I.R9 h1
 obtain ⟨_,ib,m,rb,lb,eb⟩:=I.Q8 h2
 have hs:ia.toArray.size+ib.toArray.size<=sizeLine:=by rw [size_toArray,size_toArray];omega
 have hl:¬ (!ia.toArray.isEmpty&&Builtin.List.listTooLong (ia.toArray.size+ib.toArray.size))=true:=by
  rw [Oo hs,Bool.and_false];simp
 refine call_meets F.slot_list_extend ⟨_,ea,rfl⟩ F.entry_list_extend (F.args_list_extend_2 _ _)
  (AutoSeq1.list_extend_list_list_0 l ia.toArray n b ib.toArray m hl (by rw [size_toArray];omega) (by omega)) ⟨ea,eb,?_⟩
 refine ⟨.eX,_,I.R8 (its':=ia++ib) h1 ea (by simp) (ra.append rb) (by rw [length_append];omega),rfl,q⟩
def MK(_ j:Int):Prop:=0<j/\j<2 ^ 1000
theorem wC:Dr X (binaryOp .FloorDiv) (rI MK fun i j=>.int (i / j)):=opI fun i j _ _ _ _ _ hc q=>by
 have h1:(0:Int)<j:=hc.1
 have h2:j.natAbs<2 ^ 1000:=by have:=hc.2;omega
 refine floordiv_int (by omega) (by rw [Int.fdiv_eq_ediv_of_nonneg i (by omega)];exact q) (.inl (PyProof.noPylong_of_log2 ?_))
 have:=(Nat.log2_lt (by omega:j.natAbs≠0)).mpr h2
 omega
def Pw(td ty tx:TE):TE:=fun σ H Q=>td σ H fun x H1=>∃ a,x=.ref a/\IsD H1 a/\ty σ H1 fun y H2=>tx σ H2 fun z H3=>∃ kvs k,H3 a=some (.dK kvs)/\y=kV k/\kvs.length<sizeLine ∧
 (∀ v,eM kvs k=some v->Q v H3)/\(eM kvs k=none->Q z (a6 H3 a (.dK (nW kvs k z))))
theorem IY{A:Around}{E:Value->Shared->Prop}{a:Addr}{k:fY}{kvs:List (fY×V)}{z:V}{u r:Value}{Q:Value->Shared->Prop}(I:bN X pins σ H s)(e:H a=some (.dK kvs))(ry:cJ (kV k) u)(rz:cJ z r)(hl:kvs.length<sizeLine)
 (h1:∀ v w' s',eM kvs k=some v->bN X pins σ H s'->cJ v w'->Q w' s') (h2:eM kvs k=none->∀ s',bN X pins σ (a6 H a (.dK (nW kvs k z))) s'->Q r s') :
 wpAny (model X.prog X.w) A (call (.builtin "dict.setdefault") [.ref a,u,r]) Q E s:=by
 obtain ⟨hz,hd,vs,rel,dd⟩:=QG I.eE e
 have hv:vs.length<=sizeLine:=by rw [<-rel.length];exact hz
 have hp:(nW kvs k z).length<=sizeLine:=by have:=pM kvs k z;omega
 refine call_meetsIn PySem.F.slot_dict_setdefault dd.typeIs PySem.F.entry_dict_setdefault (PySem.F.args_dict_setdefault_3 _ _ _) (kt_meets_setdefault (dY X.prog X.w) a (HK ry) hd r) ⟨vs,dd,hv,fun v hv'=>?_,fun hn h' dd' hs=>?_⟩
 ·have rv:=rel.val k
  rw [hv'] at rv
  cases q:eM kvs k with
  | none=>rw [q] at rv;exact rv.elim
  | some x =>
   rw [q] at rv
   exact h1 x v _ q (I.tok _) rv
 ·have rv:=rel.val k
  rw [hn] at rv
  have q:eM kvs k=none:=by
   cases q:eM kvs k with
   | none=>rfl
   | some x=>rw [q] at rv;exact rv.elim
  have he:∃ w',h'.get? a=some w':=let ⟨w',_,_,hw,_⟩:=dd';⟨w',hw⟩
  exact h2 q _ (Ip I (by rw [e];exact True.intro) hs he (OZ hp hd (rel.put k rz) dd'))
theorem MU{o e f:Expr}{td ty tx:TE}{apos cpos:Pos}(ho:PE X o td)(he:PE X e ty)(hf:PE X f tx)(m:M2 X o "setdefault" apos e f cpos):PE X (.Call (.Attribute o "setdefault" apos) [e,f] [] cpos) (Pw td ty tx):=by
 intro pins s σ H Q I h
 refine wpAny_Call_method m.base m.few m.line PySem.F.plainAttrs_dict PySem.F.slot_dict_setdefault PySem.F.type_dict_setdefault (eD (ho pins s σ H _ I h) fun u s1 ⟨x,H1,I1,rx,a,ex,d,q1⟩=>?_)
 subst ex
 have hu:u=Value.ref a:=rx
 subst hu
 obtain ⟨t1,t2,_⟩:=Ry I1 d
 refine ⟨t1,t2,?_⟩
 rw [m.trees]
 refine Calls.callWith_builtin rfl (Calls.evalArgs_plain (Calls.spliced_cons (eD (he pins s1 σ H1 _ I1 q1) fun iv s2 ⟨y,H2,I2,ry,q2⟩ =>
  Calls.spliced_cons (eD (hf pins s2 σ H2 _ I2 q2) fun fv s3 ⟨z,H3,I3,rz,kvs,k,hd,ey,hl,qa,qb⟩=>Calls.spliced_nil ?_))))
 subst ey
 exact IY I3 hd ry rz hl (fun v w' s4 hv I4 rv=>⟨v,H3,I4,rv,qa v hv⟩) fun hn s4 I4=>⟨z,_,I4,rz,qb hn⟩
theorem bN.dictAt{d:Addr}{kvs:List (fY×V)}(I:bN X pins σ H s)(h:Rd H d (.dK kvs)):kvs.length<=sizeLine/\(d==sysModules)=false/\∃ vs ep,KV kvs vs/\s.heap.DictAt (dY X.prog X.w) d vs ep:=by
 obtain ⟨z,hs,vs,kv,o,es,ep,ho,r⟩:=h.ok I.eE
 exact ⟨z,hs,vs,ep,kv,o,es,ho,r⟩
theorem Hm{kvs:List (fY×V)}{vs:List (fY×Value)}(kv:KV kvs vs){acc:Array Value}(ha:ItemsOf (fun i v=>∃ k x,vs[i]?=some (k,x)/\(dY X.prog X.w).is k v=true) acc vs.length):b9 (kvs.map fun p=>kV p.1) acc.toList:=by
 have key:∀ (ks:List fY) (us:List Value),us.length=ks.length->(∀ (j:Nat) (v:Value),us[j]?=some v->∃ k,ks[j]?=some k/\BS k v=true)->b9 (ks.map kV) us:=by
  intro ks
  induction ks with
  | nil=>intro us hl _;cases us with
   | nil=>exact .nil
   | cons _ _=>cases hl
  | cons k ks ih =>
   intro us hl hk
   cases us with
   | nil=>cases hl
   | cons u us =>
    refine .cons ?_ (ih us (by simpa using hl) fun j v hj=>?_)
    ·obtain ⟨k',hk',hi⟩:=hk 0 u rfl
     have:k=k':=Option.some.inj hk'
     subst this
     rcases d8 hi with ⟨i,t,rfl,rfl⟩|⟨x,t,rfl,rfl⟩
     ·exact ⟨t,rfl⟩
     ·exact ⟨t,rfl⟩
    ·obtain ⟨k',hk',hi⟩:=hk (j+1) v (by simpa using hj)
     exact ⟨k',by simpa using hk',hi⟩
 have e1:kvs.map (fun p=>kV p.1)=(vs.map (·.1)).map kV:=by
  rw [<-kv.keys,List.map_map];rfl
 rw [e1]
 refine key _ _ (by rw [Array.length_toList,length_map];exact ha.1) fun j v hj=>?_
 obtain ⟨k,x,h1,h2⟩:=ha.2 j v (by rw [<-Array.getElem?_toList];exact hj)
 exact ⟨k,by rw [getElem?_map,h1];rfl,h2⟩
theorem LY(hc:X.calm=true):AL X (.type "list") (fun xs H Q=>∃ d kvs,xs=[.ref d]/\Rd H d (.dK kvs)/\∀ l,H l=none->Q (.ref l) (a6 H l (.lst (kvs.map fun p=>kV p.1)))):=by
 intro pins s σ H xs us Q I r h
 obtain ⟨d,kvs,rfl,hd,q⟩:=h
 obtain ⟨u,rfl,rx⟩:=O8 r
 cases rx
 obtain ⟨z,hs,vs,ep,kv,dd⟩:=I.dictAt hd
 have hl:kvs.length=vs.length:=Paired.length kv
 refine PySem.W.kdl_call (PySem.W.kdl_dict (knd:=dY X.prog X.w) (kvs:=vs) (ep:=ep) hs) (I.ok.hd hc) dd (by rw [<-hl];exact z) fun h' tk acc c kp he ha=>?_
 have rv:=Hm (X:=X) kv ha
 refine ⟨.ref s.heap.objs.size,_,I.laid (t':=tk) kp (Nat.le_refl _) (show iF X.prog X.w _ h' _ (.lst (kvs.map fun p=>kV p.1)) from ⟨by rw [length_map];exact z,acc.toList,c,rv,by rw [he]⟩),rfl,q _ I.fresh⟩
theorem Io(hc:X.calm=true):AL X (.builtin "sorted") (fun xs H Q=>∃ (d:Addr) (kvs:List (fY×V)) (ns:List Int),xs=[.ref d]/\Rd H d (.dK kvs)/\kvs.map (·.1)=ns.map Sum.inl/\∀ (ns':List Int) (p:Addr),ns'.Perm ns->ns'.Pairwise (·<=·)->H p=none->Q (.ref p) (a6 H p (.lst (ns'.map V.int)))):=by
 intro pins s σ H xs us Q I r h
 obtain ⟨d,kvs,ns,rfl,hd,hk,q⟩:=h
 obtain ⟨u,rfl,rx⟩:=O8 r
 cases rx
 obtain ⟨z,hs,vs,ep,kv,dd⟩:=I.dictAt hd
 have hl:kvs.length=vs.length:=Paired.length kv
 refine Calls.call_function_entry kind_sorted plain_sorted entry_sorted (args_sorted1 _) ?_
 unfold Builtin.«sorted»
 refine wpAny_bind (m:=checkCount "sorted" 1 1 _) (wpAny_pure ?_)
 refine wpAny_bind (PySem.W.kdu_collect (A:=X.A.in1) (PySem.W.kdl_dict (knd:=dY X.prog X.w) (kvs:=vs) (ep:=ep) hs) (I.ok.hd hc) dd (by rw [<-hl];exact z) fun h' tk acc kp ha=>?_)
 have rv:=Hm (X:=X) kv ha
 have ek:(kvs.map fun p=>kV p.1)=ns.map V.int:=by
  have:(kvs.map fun p=>kV p.1)=(kvs.map (·.1)).map kV:=by rw [List.map_map];rfl
  rw [this,hk,List.map_map];rfl
 rw [ek] at rv
 have hI:=rv.ints
 have hlen:acc.toList.length<=sizeLine:=by rw [<-rv.length,<-ek,length_map];exact z
 have I1:bN X pins σ H { s with heap:=h',toks:=tk }:=I.kept kp
 refine wpAny_bind (wpAny_newList ?_ hlen)
 have hob:(h'.push { cls:=.type "list",data:=.seq acc.toList.toArray }).get? h'.objs.size=some (seqObj "list" acc.toList.toArray 0):=Heap.get?_push_size _ rfl
 have srt:wpAny (model X.prog X.w) X.A.in1 (call (.builtin "list.sort") [.ref h'.objs.size]) (fun _ s'=>EP X pins σ Q (.ref h'.objs.size) s') X.xe { s with heap:=h'.push { cls:=.type "list",data:=.seq acc.toList.toArray },toks:=tk }:=by
  refine wpAny_call_entry slot_list_sort ⟨_,hob,rfl⟩ entry_list_sort (list_sort_treeAny hob hI hlen fun out ns' h1 h2 h3=>⟨.none,rfl,?_⟩) (args_list_sort _)
  obtain ⟨ep',he'⟩:=sortedHeap_at (vs:=acc.toList) (out:=out) hob
  have hl':(ns'.map V.int).length<=sizeLine:=by rw [length_map,h2.length_eq,<-length_map (f:=V.int),<-ek,length_map];exact z
  refine ⟨.ref h'.objs.size,a6 H h'.objs.size (.lst (ns'.map V.int)),I1.laid (t':=tk) (fun b u hb=>?_) (Nat.le_refl _) ⟨hl',out.toList,ep',AR h1,he'⟩,rfl,q ns' _ h2 h3 I1.fresh⟩
  have hlt:b<h'.objs.size:=Heap.lt_size hb
  show (sortedHeap _ _ _ _).get? b=_
  rw [sortedHeap_old (Nat.ne_of_lt hlt) (by rw [size_push'];exact Nat.lt_succ_of_lt hlt)]
  exact Heap.get?_push_of_some _ hb
 refine wpAny_bind (wpAny_holding (wpAny_mono srt (fun _ s' x=>?_) fun _ _ e=>e))
 exact wpAny_pure ⟨_,rfl,x⟩
end
end L2
namespace Cp
open PySem PySem.Spec PyProof.Rows L2
def top(i:Nat):Stmt:=PySem.Challenge.pw_columnpages_s01_answers.main.body.getD i (.Pass ⟨0,0,0,0⟩)
def scB(N P:List Str)(sc:Scope):Bool:=(match sc.kind with|.function=>true|_=>false)&&!sc.isCoroutine&&!sc.isGenerator&&decide N.Nodup&&decide (N.take P.length=P)&&(P.all fun x=>match sc.names.lookup x with|some .local=>true|some .cell=>true|_=>false)&&sc.names.all fun y=>match y.2 with|.free=>false|_=>true
theorem bD{N P:List Str}{sc:Scope}(h:scB N P sc=true):aN N P sc:=by
 unfold scB at h
 simp only [Bool.and_eq_true,decide_eq_true_eq,Bool.not_eq_true',all_eq_true] at h
 obtain ⟨⟨⟨⟨⟨⟨h1,h2⟩,h3⟩,h4⟩,h5⟩,h6⟩,h7⟩:=h
 refine ⟨?_,h2,h3,h4,h5,fun x hx=>?_,fun y hy e=>?_⟩
 ·split at h1
  ·assumption
  ·cases h1
 ·have:=h6 x hx
  split at this
  ·exact .inl (by assumption)
  ·exact .inr (by assumption)
  ·cases this
 ·have:=h7 y hy
  rw [e] at this;cases this
structure FD where
 f:Addr
 fd:FuncData
structure gP(K:Frag)(mg:Str->Option Value)(x qual:Str)(st:Stmt)(ps:List Str)(d:FD):Prop where
 F:Fun K x qual st d.f d.fd
 b:pX K d.fd ps []
 m:mg x=some (.ref d.f)
structure MtT(K:Frag)(C:Addr)(x qual:Str)(st:Stmt)(ps:List Str)(d:FD):Prop where
 F:Fun K x qual st d.f d.fd
 b:pX K d.fd ps []
 m:PB K C x d.f
structure InT(K:Frag)(mg:Str->Option Value)(C:Addr)(c qual:Str)(st:Stmt)(ps:List Str)(d:FD):Prop where
 F:Fun K "__init__" qual st d.f d.fd
 b:pX K d.fd ps []
 make:Mk K C d.f
 g:mg c=some (.ref C)
 cl:Cls K C
structure ExT(K:Frag)(mg:Str->Option Value)(c:Str)(C:Addr):Prop where
 g:mg c=some (.ref C)
 n:nsIn K mainGlobals c=some (some (.ref C))
 ex:∃ bm newId,PySem.W.excIn K C bm newId=true/\∃ B i,PySem.ExcBaseFacts B newId i bm
abbrev tW:Stmt:=top 18
abbrev Bl:Stmt:=top 19
abbrev Fj:Stmt:=top 20
abbrev Ha:Stmt:=top 21
abbrev AF:Stmt:=top 22
abbrev vK:Stmt:=top 23
abbrev pU:Stmt:=top 24
abbrev qW:Stmt:=top 25
abbrev pH:Stmt:=top 26
abbrev qY:Stmt:=top 27
abbrev Au:Stmt:=top 28
abbrev vA:Stmt:=top 29
abbrev Ap:Stmt:=top 30
abbrev uU:Stmt:=top 31
abbrev Bt:Stmt:=top 32
abbrev rN:Stmt:=top 33
abbrev HH:Stmt:=top 38
abbrev vD:Stmt:=top 39
abbrev HD:Stmt:=top 40
abbrev nH:Stmt:=top 41
abbrev zI:Stmt:=top 42
abbrev J5:Stmt:=top 43
abbrev CN:Stmt:=top 47
abbrev DE:Stmt:=top 48
abbrev AK:Stmt:=top 49
abbrev CT:Stmt:=top 50
abbrev EX:Stmt:=top 51
abbrev FF:Stmt:=top 52
abbrev sQ:Stmt:=top 53
abbrev Cr:Stmt:=top 54
abbrev yU:Stmt:=top 58
abbrev yY:Stmt:=top 59
abbrev rQ:Stmt:=top 63
abbrev EI:Stmt:=top 64
abbrev BO:Stmt:=top 65
abbrev K6:Stmt:=top 66
abbrev Ek:Stmt:=top 67
abbrev yO:Stmt:=top 68
abbrev qM:Stmt:=top 69
abbrev A0:Stmt:=top 73
abbrev Bu:Stmt:=top 74
abbrev Di:Stmt:=top 75
abbrev AQ:Stmt:=top 76
abbrev yI:Stmt:=top 77
abbrev AY:Stmt:=top 78
abbrev EK:Stmt:=top 79
abbrev ER:Stmt:=top 80
abbrev yJ:Stmt:=top 81
abbrev yH:Stmt:=top 82
abbrev sC:Stmt:=top 83
abbrev DF:Stmt:=top 95
abbrev Fv:Stmt:=top 96
abbrev ET:Stmt:=top 97
abbrev zH:Stmt:=top 98
abbrev Dm:Stmt:=top 100
abbrev yK:Stmt:=top 101
abbrev AU:Stmt:=top 102
abbrev AI:Stmt:=top 103
abbrev Dq:Stmt:=top 104
abbrev yG:Stmt:=top 105
abbrev vQ:Stmt:=top 106
abbrev rD:Stmt:=top 107
abbrev G_:Stmt:=top 115
abbrev nO:Stmt:=top 116
abbrev zM:Stmt:=top 117
abbrev Bb:Stmt:=top 118
abbrev Ao:Stmt:=top 119
abbrev QJ:Stmt:=top 120
abbrev Of:Stmt:=top 121
abbrev OP:Stmt:=top 122
abbrev QA:Stmt:=top 123
abbrev mD:Stmt:=top 124
abbrev AA:Stmt:=top 125
abbrev zG:Stmt:=top 126
abbrev HQ:Stmt:=top 127
abbrev yV:Stmt:=top 128
abbrev BB:Stmt:=top 129
abbrev CP:Stmt:=top 130
abbrev B7:Stmt:=dU (top 17) 0
abbrev DC:Stmt:=dU (top 37) 0
abbrev pW:Stmt:=dU (top 37) 1
abbrev nP:Stmt:=dU (top 37) 2
abbrev nJ:Stmt:=dU (top 37) 3
abbrev s_:Stmt:=dU (top 37) 4
abbrev DA:Stmt:=dU (top 46) 0
abbrev AM:Stmt:=dU (top 56) 0
abbrev pR:Stmt:=dU (top 57) 0
abbrev BU:Stmt:=dU (top 62) 0
abbrev CM:Stmt:=dU (top 72) 0
abbrev nM:Stmt:=dU (top 72) 1
abbrev gT:Stmt:=dU (top 72) 2
abbrev zA:Stmt:=dU (top 99) 0
abbrev zF:Stmt:=dU (top 99) 1
abbrev k8:Stmt:=dU (top 99) 2
abbrev oJ:Stmt:=dU (top 99) 3
abbrev AE:Stmt:=dU (top 112) 0
abbrev Bv:Stmt:=dU (top 113) 0
abbrev nF:Stmt:=dU (top 113) 1
abbrev qK:Stmt:=dU (top 113) 2
set_option genInjectivity false in
structure bH where
 cB:Addr
 fX:Addr
 rG:Addr
 iB:Addr
 b5:Addr
 iC:Addr
 cW:Addr
 gV:Addr
 cR:Addr
 iX:Addr
 c6:Addr
 cC:Addr
 fE:Addr
 fK:Addr
 Dy:Addr
 i9:FD
 lK:FD
 pD:FD
 lV:FD
 iO:FD
 gU:FD
 fG:FD
 gG:FD
 fI:FD
 gD:FD
 eZ:FD
 cM:FD
 jS:FD
 gX:FD
 lH:FD
 gN:FD
 pK:FD
 fO:FD
 dG:FD
 d9:FD
 j3:FD
 packed:FD
 i4:FD
 lQ:FD
 lR:FD
 n_:FD
 oY:FD
 mJ:FD
 fV:FD
 wV:FD
 j5:FD
 j4:FD
 gO:FD
 mL:FD
 lN:FD
 vC:FD
 rJ:FD
 j6:FD
 gI:FD
 jZ:FD
 jY:FD
 take_size:FD
 lE:FD
 iM:FD
 jQ:FD
 pF:FD
 pE:FD
 j9:FD
 j8:FD
 lI:FD
 gK:FD
 oI:FD
 qX:FD
 gQ:FD
 hZ:FD
 c4:FD
 cY:FD
 jR:FD
 nZ:FD
 d7:FD
 fQ:FD
 gF:FD
 answers:FD
 d_:FD
 gS:FD
 lG:FD
 lJ:FD
 put:FD
 left:FD
 kept:FD
 ask:FD
 dP:FD
 iL:FD
 kE:FD
 w8:FD
 j_:FD
 lL:FD
 nY:FD
 aP:FD
 bE:FD
 c_:FD
 dD:FD
 cN:FD
 dW:FD
 fD:FD
 dF:FD
 bK:FD
 bV:FD
 aO:FD
 cO:FD
 cS:FD
 aS:FD
 bA:FD
 bB:FD
 b_:FD
 aU:FD
 bM:FD
 aY:FD
 cA:FD
 orders:Addr
structure b7(K:Frag)(mg:Str->Option Value)(t:bH):Prop where
 Jk:∃ tk,mg "GLYPH"=some (.int (0) tk)
 Cq:∃ tk,mg "KERN"=some (.int (1) tk)
 Fn:∃ tk,mg "GLUE"=some (.int (2) tk)
 rA:∃ tk,mg "LEADERS"=some (.int (3) tk)
 lC:∃ tk,mg "PENALTY"=some (.int (4) tk)
 Ah:∃ tk,mg "RULE"=some (.int (5) tk)
 yF:∃ tk,mg "BOX"=some (.int (6) tk)
 L3:∃ tk,mg "DISC"=some (.int (7) tk)
 Ko:∃ tk,mg "ADJUST"=some (.int (8) tk)
 N2:∃ tk,mg "MARK"=some (.int (9) tk)
 kC:∃ tk,mg "INSERTION"=some (.int (10) tk)
 La:∃ tk,mg "ANCHOR"=some (.int (11) tk)
 qQ:∃ tk,mg "LONGEST"=some (.int (1073741823) tk)
 lF:∃ tk,mg "NO_BREAK"=some (.int (10000) tk)
 Gm:∃ tk,mg "END_STRETCH"=some (.int (65536) tk)
 JQ:∃ tk,mg "COLUMN_BOX"=some (.int (1) tk)
 D0:∃ tk,mg "WORST"=some (.int (10000) tk)
 tT:mg "ORDERS_FROM_HIGHEST"=some (.ref t.orders)
 tP:∃ (o:Obj) (its:Array Value) (n:Nat),K.lookup t.orders=some o/\o.cls=.type "tuple"/\o.data=.seq its n/\its.size<=sizeLine/\b9 [.int 3,.int 2,.int 1,.int 0] its.toList
 AD:∃ tk,mg "DEPLORABLE"=some (.int (100000) tk)
 zY:∃ tk,mg "THOUSAND"=some (.int (1000) tk)
 hX:∃ tk,mg "MORE_WANTED"=some (.int (-1) tk)
 M1:∃ tk,mg "DEEPEST"=some (.int (8) tk)
 uW:∃ tk,mg "HIGHEST_NAME"=some (.int (65535) tk)
 mV:∃ tk,mg "HIGHEST_CLASS"=some (.int (255) tk)
 tO:∃ tk,mg "HIGHEST_ORDER"=some (.int (3) tk)
 qD:∃ tk,mg "SETTING_END"=some (.int (1152921504606846976) tk)
 Kv:∃ tk,mg "MOST_KEPT"=some (.int (2000) tk)
 Ck:∃ tk,mg "HIGHEST_FACTOR"=some (.int (1000000) tk)
 M8:∃ tk,mg "NO_MARK"=some (.int (-1) tk)
 f_:mg "len"=none
 QL:mg "max"=none
 MN:mg "min"=none
 D7:mg "range"=none
 Oe:mg "sorted"=none
 Sb:mg "any"=none
 Rb:mg "list"=none
 i9:gP K mg "column_sides" "column_sides" tW ["numbers","inner"] t.i9
 lK:gP K mg "rule_sides" "rule_sides" Bl ["numbers"] t.lK
 pD:gP K mg "is_solid" "is_solid" Fj ["thing"] t.pD
 lV:gP K mg "is_glue" "is_glue" Ha ["thing"] t.lV
 iO:gP K mg "is_dropped" "is_dropped" AF ["thing"] t.iO
 gU:gP K mg "glue_numbers" "glue_numbers" vK ["thing"] t.gU
 fG:gP K mg "insertion_class" "insertion_class" pU ["thing"] t.fG
 gG:gP K mg "insertion_glue" "insertion_glue" qW ["thing"] t.gG
 fI:gP K mg "insertion_depth" "insertion_depth" pH ["thing"] t.fI
 gD:gP K mg "insertion_cost" "insertion_cost" qY ["thing"] t.gD
 eZ:gP K mg "penalty_of" "penalty_of" Au ["thing"] t.eZ
 cM:gP K mg "list_numbers" "list_numbers" vA ["things"] t.cM
 jS:gP K mg "glue_above" "glue_above" Ap ["glue","solid"] t.jS
 gX:gP K mg "make_penalty" "make_penalty" uU ["penalty"] t.gX
 lH:gP K mg "column_end" "column_end" Bt [] t.lH
 gN:gP K mg "insertion_with" "insertion_with" rN ["insertion","things"] t.gN
 pK:gP K mg "sums_of" "sums_of" HH ["things"] t.pK
 fO:gP K mg "giving_order" "giving_order" vD ["by_orders"] t.fO
 dG:gP K mg "badness" "badness" HD ["lack","stretches","shrinks"] t.dG
 d9:gP K mg "stretched_badness" "stretched_badness" nH ["lack","stretches"] t.d9
 j3:gP K mg "setting_for" "setting_for" zI ["lack","stretches","shrinks"] t.j3
 packed:gP K mg "packed" "packed" J5 ["things","height","greatest_depth"] t.packed
 i4:gP K mg "is_forced" "is_forced" CN ["penalty"] t.i4
 lQ:gP K mg "breaks_at" "breaks_at" DE ["things","place"] t.lQ
 lR:gP K mg "cut_column" "cut_column" AK ["things","height","greatest_depth","glue"] t.lR
 n_:gP K mg "cut_place" "cut_place" CT ["things","height","greatest_depth"] t.n_
 oY:gP K mg "cut_cost" "cut_cost" EX ["sums","height","greatest_depth","penalty"] t.oY
 mJ:gP K mg "first_of" "first_of" FF ["things","kinds"] t.mJ
 fV:gP K mg "has_something" "has_something" sQ ["things"] t.fV
 wV:gP K mg "rest_of" "rest_of" Cr ["behind","glue"] t.wV
 j5:gP K mg "first_style" "first_style" yU [] t.j5
 j4:gP K mg "class_style" "class_style" yY ["told","number"] t.j4
 gO:gP K mg "take_insertion" "take_insertion" rQ ["page","insertion"] t.gO
 mL:gP K mg "goal_for" "goal_for" EI ["page","style","share"] t.mL
 lN:gP K mg "fits_whole" "fits_whole" BO ["page","style","share","insertion"] t.lN
 vC:gP K mg "put_on" "put_on" K6 ["page","style","share","things"] t.vC
 rJ:gP K mg "room_for" "room_for" Ek ["page","style","share"] t.rJ
 j6:gP K mg "put_part_on" "put_part_on" yO ["page","style","share","insertion"] t.j6
 gI:gP K mg "put_on_or_wait" "put_on_or_wait" qM ["page","style","share","insertion"] t.gI
 jZ:gP K mg "take_thing" "take_thing" A0 ["page","thing"] t.jZ
 jY:gP K mg "take_other" "take_other" Bu ["page","thing"] t.jY
 take_size:gP K mg "take_size" "take_size" Di ["page","thing"] t.take_size
 lE:gP K mg "take_solid" "take_solid" AQ ["page","thing"] t.lE
 iM:gP K mg "page_before" "page_before" yI ["column","place","style","classes"] t.iM
 jQ:gP K mg "break_cost" "break_cost" AY ["page","penalty"] t.jQ
 pF:gP K mg "is_break" "is_break" EK ["page","column","place"] t.pF
 pE:gP K mg "find_end" "find_end" ER ["column","style","classes"] t.pE
 j9:gP K mg "left_behind" "left_behind" yJ ["page","column","end"] t.j9
 j8:gP K mg "end_penalty" "end_penalty" yH ["thing"] t.j8
 lI:gP K mg "page_marks" "page_marks" sC ["page","top"] t.lI
 gK:gP K mg "is_length" "is_length" DF ["number"] t.gK
 oI:gP K mg "is_order" "is_order" Fv ["number"] t.oI
 qX:gP K mg "is_class" "is_class" ET ["number"] t.qX
 gQ:gP K mg "is_glue_row" "is_glue_row" zH ["numbers"] t.gQ
 hZ:gP K mg "read_list" "read_list" Dm ["numbers"] t.hZ
 c4:gP K mg "read_things" "read_things" yK ["reader","room","leaders_allowed"] t.c4
 cY:gP K mg "read_thing" "read_thing" AU ["reader","room","leaders_allowed"] t.cY
 jR:gP K mg "read_plain" "read_plain" AI ["reader","kind"] t.jR
 nZ:gP K mg "read_rule" "read_rule" Dq ["reader"] t.nZ
 d7:gP K mg "read_deeper" "read_deeper" yG ["reader","kind","room","leaders_allowed"] t.d7
 fQ:gP K mg "read_leaders" "read_leaders" vQ ["reader","room","leaders_allowed"] t.fQ
 gF:gP K mg "read_box_sides" "read_box_sides" rD ["reader"] t.gF
 answers:gP K mg "answers" "answers" G_ ["calls"] t.answers
 d_:gP K mg "answer_or_refusal" "answer_or_refusal" nO ["press","told"] t.d_
 gS:gP K mg "answer_call" "answer_call" zM ["press","told","number"] t.gS
 lG:gP K mg "tell_style" "tell_style" Bb ["press","told"] t.lG
 lJ:gP K mg "tell_class" "tell_class" Ao ["press","told"] t.lJ
 put:gP K mg "put" "put" QJ ["press","told"] t.put
 left:gP K mg "left" "left" Of ["press","told"] t.left
 kept:gP K mg "kept" "kept" OP ["column"] t.kept
 ask:gP K mg "ask" "ask" QA ["press"] t.ask
 dP:gP K mg "shares_with_things" "shares_with_things" mD ["page"] t.dP
 iL:gP K mg "check_told" "check_told" AA ["things"] t.iL
 kE:gP K mg "tell_things" "tell_things" zG ["press","told"] t.kE
 w8:gP K mg "put_end" "put_end" HQ ["press"] t.w8
 j_:gP K mg "drop_column" "drop_column" yV ["press"] t.j_
 lL:gP K mg "tell_where" "tell_where" BB ["press"] t.lL
 nY:gP K mg "tell_cost" "tell_cost" CP ["press","told"] t.nY
 aP:InT K mg t.cB "Thing" "Thing.__init__" B7 ["self","numbers","inner"] t.aP
 bE:InT K mg t.fX "Sums" "Sums.__init__" DC ["self"] t.bE
 c_:MtT K t.fX "take_thing" "Sums.take_thing" pW ["self","thing"] t.c_
 dD:MtT K t.fX "take_elastic" "Sums.take_elastic" nP ["self","glue"] t.dD
 cN:MtT K t.fX "depth_within" "Sums.depth_within" nJ ["self","greatest"] t.cN
 dW:MtT K t.fX "lacks_to" "Sums.lacks_to" s_ ["self","height","greatest_depth"] t.dW
 fD:InT K mg t.rG "Part" "Part.__init__" DA ["self","upper_part","penalty","rest"] t.fD
 dF:InT K mg t.iB "Style" "Style.__init__" AM ["self","height","max_depth","top"] t.dF
 bK:InT K mg t.b5 "ClassStyle" "ClassStyle.__init__" pR ["self","skip","factor","most","late"] t.bK
 bV:InT K mg t.iC "Share" "Share.__init__" BU ["self"] t.bV
 aO:InT K mg t.cW "Page" "Page.__init__" CM ["self","style","classes"] t.aO
 cO:MtT K t.cW "take_elastic" "Page.take_elastic" nM ["self","glue"] t.cO
 cS:MtT K t.cW "shows_something" "Page.shows_something" gT ["self"] t.cS
 aS:InT K mg t.gV "Reader" "Reader.__init__" zA ["self","numbers"] t.aS
 bA:MtT K t.gV "take" "Reader.take" zF ["self","lowest","highest"] t.bA
 bB:MtT K t.gV "take_lengths" "Reader.take_lengths" k8 ["self","count"] t.bB
 b_:MtT K t.gV "take_glue" "Reader.take_glue" oJ ["self"] t.b_
 aU:InT K mg t.cR "Press" "Press.__init__" AE ["self"] t.aU
 bM:InT K mg t.iX "Calls" "Calls.__init__" Bv ["self","numbers"] t.bM
 aY:MtT K t.iX "take_number" "Calls.take_number" nF ["self"] t.aY
 cA:MtT K t.iX "take_row" "Calls.take_row" qK ["self"] t.cA
 bS:bP K t.cB "kind"
 cI:bP K t.cB "numbers"
 iP:bP K t.cB "inner"
 oP:bP K t.cB "width"
 hW:bP K t.cB "height"
 iQ:bP K t.cB "depth"
 jK:bP K t.fX "total"
 kO:bP K t.fX "widest"
 dR:bP K t.fX "last_depth"
 iD:bP K t.fX "stretches"
 jN:bP K t.fX "shrinks"
 pB:bP K t.rG "upper_part"
 sR:bP K t.rG "penalty"
 B6:bP K t.rG "rest"
 tD:bP K t.iB "height"
 jP:bP K t.iB "max_depth"
 AS:bP K t.iB "top"
 jU:bP K t.b5 "skip"
 d5:bP K t.b5 "factor"
 jX:bP K t.b5 "most"
 oN:bP K t.b5 "late"
 eB:bP K t.iC "things"
 jL:bP K t.iC "height"
 fF:bP K t.iC "closed"
 qJ:bP K t.cW "style"
 sT:bP K t.cW "classes"
 gY:bP K t.cW "goal"
 fU:bP K t.cW "total"
 eQ:bP K t.cW "depth"
 kP:bP K t.cW "stretches"
 oZ:bP K t.cW "shrink"
 iU:bP K t.cW "things"
 jG:bP K t.cW "begun"
 iI:bP K t.cW "has_solid"
 iS:bP K t.cW "shares"
 jJ:bP K t.cW "extra"
 jM:bP K t.cW "waiting"
 dE:bP K t.gV "numbers"
 b8:bP K t.gV "place"
 e_:bP K t.cR "style"
 eS:bP K t.cR "classes"
 bF:bP K t.cR "column"
 jO:bP K t.cR "last_mark"
 jT:bP K t.cR "last_page"
 fR:bP K t.cR "last_shares"
 lP:bP K t.iX "numbers"
 eV:bP K t.iX "place"
 c6:ExT K mg "WrongStyle" t.c6
 cC:ExT K mg "WrongList" t.cC
 fE:ExT K mg "NotThere" t.fE
 fK:ExT K mg "NotKept" t.fK
 Dy:ExT K mg "NoSuchCall" t.Dy
 nd:[t.cB,t.fX,t.rG,t.iB,t.b5,t.iC,t.cW,t.gV,t.cR,t.iX].Nodup
 qL:exmOne K (.ref t.c6) (.ref t.c6)=some true
 sI:exmOne K (.ref t.cC) (.ref t.c6)=some false
 k_:exmOne K (.ref t.cC) (.ref t.cC)=some true
 tR:exmOne K (.ref t.fE) (.ref t.c6)=some false
 u_:exmOne K (.ref t.fE) (.ref t.cC)=some false
 xH:exmOne K (.ref t.fE) (.ref t.fE)=some true
 vS:exmOne K (.ref t.fK) (.ref t.c6)=some false
 xR:exmOne K (.ref t.fK) (.ref t.cC)=some false
 Ag:exmOne K (.ref t.fK) (.ref t.fE)=some false
 BQ:exmOne K (.ref t.fK) (.ref t.fK)=some true
section
variable {K:Frag}{mg:Str->Option Value}{t:bH}
theorem b7.GH(T:b7 K mg t):t.cB≠t.fX:=fun h=>by have:=T.nd;simp [h] at this
theorem b7.vV(T:b7 K mg t):t.cB≠t.iB:=fun h=>by have:=T.nd;simp [h] at this
theorem b7.nI(T:b7 K mg t):t.cB≠t.b5:=fun h=>by have:=T.nd;simp [h] at this
theorem b7.FG(T:b7 K mg t):t.cB≠t.iC:=fun h=>by have:=T.nd;simp [h] at this
theorem b7.Gi(T:b7 K mg t):t.cB≠t.cW:=fun h=>by have:=T.nd;simp [h] at this
theorem b7.DQ(T:b7 K mg t):t.cB≠t.gV:=fun h=>by have:=T.nd;simp [h] at this
theorem b7.Ex(T:b7 K mg t):t.cB≠t.cR:=fun h=>by have:=T.nd;simp [h] at this
theorem b7.Fe(T:b7 K mg t):t.cB≠t.iX:=fun h=>by have:=T.nd;simp [h] at this
theorem b7.GW(T:b7 K mg t):t.fX≠t.iB:=fun h=>by have:=T.nd;simp [h] at this
theorem b7.Ac(T:b7 K mg t):t.fX≠t.b5:=fun h=>by have:=T.nd;simp [h] at this
theorem b7.GP(T:b7 K mg t):t.rG≠t.iC:=fun h=>by have:=T.nd;simp [h] at this
theorem b7.IC(T:b7 K mg t):t.rG≠t.cW:=fun h=>by have:=T.nd;simp [h] at this
theorem b7.Fd(T:b7 K mg t):t.iB≠t.iC:=fun h=>by have:=T.nd;simp [h] at this
theorem b7.zB(T:b7 K mg t):t.iB≠t.cW:=fun h=>by have:=T.nd;simp [h] at this
theorem b7.DW(T:b7 K mg t):t.iB≠t.gV:=fun h=>by have:=T.nd;simp [h] at this
theorem b7.E7(T:b7 K mg t):t.iB≠t.cR:=fun h=>by have:=T.nd;simp [h] at this
theorem b7.Er(T:b7 K mg t):t.iB≠t.iX:=fun h=>by have:=T.nd;simp [h] at this
theorem b7.xI(T:b7 K mg t):t.b5≠t.iC:=fun h=>by have:=T.nd;simp [h] at this
theorem b7.Aj(T:b7 K mg t):t.b5≠t.cW:=fun h=>by have:=T.nd;simp [h] at this
theorem b7.vU(T:b7 K mg t):t.b5≠t.gV:=fun h=>by have:=T.nd;simp [h] at this
theorem b7.xK(T:b7 K mg t):t.b5≠t.cR:=fun h=>by have:=T.nd;simp [h] at this
theorem b7.xO(T:b7 K mg t):t.b5≠t.iX:=fun h=>by have:=T.nd;simp [h] at this
theorem b7.yP(T:b7 K mg t):t.iC≠t.cW:=fun h=>by have:=T.nd;simp [h] at this
theorem b7.Fs(T:b7 K mg t):t.cR≠t.iX:=fun h=>by have:=T.nd;simp [h] at this
end
abbrev FJ:List Str:=["numbers","inner","kind"]
theorem tG:aN FJ ["numbers","inner"] (aI tW):=bD (by decide +kernel)
abbrev Jv:List Str:=["numbers","sides","place"]
theorem jF:aN Jv ["numbers"] (aI Bl):=bD (by decide +kernel)
abbrev Me:List Str:=["thing"]
theorem Ld:aN Me ["thing"] (aI Fj):=bD (by decide +kernel)
abbrev Nu:List Str:=["thing"]
theorem Md:aN Nu ["thing"] (aI Ha):=bD (by decide +kernel)
abbrev Jh:List Str:=["thing"]
theorem G4:aN Jh ["thing"] (aI AF):=bD (by decide +kernel)
abbrev FL:List Str:=["thing"]
theorem DU:aN FL ["thing"] (aI vK):=bD (by decide +kernel)
abbrev AW:List Str:=["thing"]
theorem zU:aN AW ["thing"] (aI pU):=bD (by decide +kernel)
abbrev Cu:List Str:=["thing"]
theorem Bk:aN Cu ["thing"] (aI qW):=bD (by decide +kernel)
abbrev A_:List Str:=["thing"]
theorem Ak:aN A_ ["thing"] (aI pH):=bD (by decide +kernel)
abbrev Ci:List Str:=["thing"]
theorem Bj:aN Ci ["thing"] (aI qY):=bD (by decide +kernel)
abbrev IK:List Str:=["thing"]
theorem F6:aN IK ["thing"] (aI Au):=bD (by decide +kernel)
abbrev E2:List Str:=["things","numbers","thing"]
theorem mX:aN E2 ["things"] (aI vA):=bD (by decide +kernel)
abbrev JD:List Str:=["glue","solid","size"]
theorem zL:aN JD ["glue","solid"] (aI Ap):=bD (by decide +kernel)
abbrev E4:List Str:=["penalty"]
theorem DV:aN E4 ["penalty"] (aI uU):=bD (by decide +kernel)
abbrev Iz:List Str:=[]
theorem Gs:aN Iz [] (aI Bt):=bD (by decide +kernel)
abbrev CA:List Str:=["insertion","things"]
theorem BC:aN CA ["insertion","things"] (aI rN):=bD (by decide +kernel)
abbrev NQ:List Str:=["things","sums","thing"]
theorem z_:aN NQ ["things"] (aI HH):=bD (by decide +kernel)
abbrev FU:List Str:=["by_orders","order"]
theorem sX:aN FU ["by_orders"] (aI vD):=bD (by decide +kernel)
abbrev MY:List Str:=["lack","stretches","shrinks","order"]
theorem FX:aN MY ["lack","stretches","shrinks"] (aI HD):=bD (by decide +kernel)
abbrev xN:List Str:=["lack","stretches","order"]
theorem l8:aN xN ["lack","stretches"] (aI nH):=bD (by decide +kernel)
abbrev Gd:List Str:=["lack","stretches","shrinks","by_orders","order","most"]
theorem kM:aN Gd ["lack","stretches","shrinks"] (aI zI):=bD (by decide +kernel)
abbrev OD:List Str:=["things","height","greatest_depth","sums","setting","sides"]
theorem w_:aN OD ["things","height","greatest_depth"] (aI J5):=bD (by decide +kernel)
abbrev KH:List Str:=["penalty"]
theorem JF:aN KH ["penalty"] (aI CN):=bD (by decide +kernel)
abbrev KC:List Str:=["things","place","thing"]
theorem B2:aN KC ["things","place"] (aI DE):=bD (by decide +kernel)
abbrev Jq:List Str:=["things","height","greatest_depth","glue","place","upper","rest"]
theorem lU:aN Jq ["things","height","greatest_depth","glue"] (aI AK):=bD (by decide +kernel)
abbrev Lf:List Str:=["things","height","greatest_depth","sums","best","least","place","penalty","cost"]
theorem dH:aN Lf ["things","height","greatest_depth"] (aI CT):=bD (by decide +kernel)
abbrev LD:List Str:=["sums","height","greatest_depth","penalty","bad"]
theorem CW:aN LD ["sums","height","greatest_depth","penalty"] (aI EX):=bD (by decide +kernel)
abbrev Ly:List Str:=["things","kinds","place"]
theorem tX:aN Ly ["things","kinds"] (aI FF):=bD (by decide +kernel)
abbrev DS:List Str:=["things"]
theorem Cb:aN DS ["things"] (aI sQ):=bD (by decide +kernel)
abbrev Ig:List Str:=["behind","glue","start","rest","solid","thing"]
theorem lM:aN Ig ["behind","glue"] (aI Cr):=bD (by decide +kernel)
abbrev GV:List Str:=[]
theorem Fx:aN GV [] (aI yU):=bD (by decide +kernel)
abbrev F7:List Str:=["told","number"]
theorem EH:aN F7 ["told","number"] (aI yY):=bD (by decide +kernel)
abbrev CB:List Str:=["page","insertion","number","style","share"]
theorem iG:aN CB ["page","insertion"] (aI rQ):=bD (by decide +kernel)
abbrev Lq:List Str:=["page","style","share"]
theorem Kn:aN Lq ["page","style","share"] (aI EI):=bD (by decide +kernel)
abbrev IH:List Str:=["page","style","share","insertion","height","needed"]
theorem qE:aN IH ["page","style","share","insertion"] (aI BO):=bD (by decide +kernel)
abbrev O0:List Str:=["page","style","share","things","height"]
theorem HP:aN O0 ["page","style","share","things"] (aI K6):=bD (by decide +kernel)
abbrev LL:List Str:=["page","style","share","room","free"]
theorem uK:aN LL ["page","style","share"] (aI Ek):=bD (by decide +kernel)
abbrev Gk:List Str:=["page","style","share","insertion","room","part"]
theorem pC:aN Gk ["page","style","share","insertion"] (aI yO):=bD (by decide +kernel)
abbrev Cz:List Str:=["page","style","share","insertion"]
theorem Ba:aN Cz ["page","style","share","insertion"] (aI qM):=bD (by decide +kernel)
abbrev JM:List Str:=["page","thing"]
theorem Gx:aN JM ["page","thing"] (aI A0):=bD (by decide +kernel)
abbrev IU:List Str:=["page","thing"]
theorem Gh:aN IU ["page","thing"] (aI Bu):=bD (by decide +kernel)
abbrev KJ:List Str:=["page","thing"]
theorem Jj:aN KJ ["page","thing"] (aI Di):=bD (by decide +kernel)
abbrev Jz:List Str:=["page","thing"]
theorem GO:aN Jz ["page","thing"] (aI AQ):=bD (by decide +kernel)
abbrev Gf:List Str:=["column","place","style","classes","page","thing"]
theorem oO:aN Gf ["column","place","style","classes"] (aI yI):=bD (by decide +kernel)
abbrev Jd:List Str:=["page","penalty","bad"]
theorem x_:aN Jd ["page","penalty"] (aI AY):=bD (by decide +kernel)
abbrev LP:List Str:=["page","column","place"]
theorem Ks:aN LP ["page","column","place"] (aI EK):=bD (by decide +kernel)
abbrev LH:List Str:=["column","style","classes","page","best","least","place","penalty","cost"]
theorem fM:aN LH ["column","style","classes"] (aI ER):=bD (by decide +kernel)
abbrev GY:List Str:=["page","column","end","thing"]
theorem oW:aN GY ["page","column","end"] (aI yJ):=bD (by decide +kernel)
abbrev G1:List Str:=["thing"]
theorem EL:aN G1 ["thing"] (aI yH):=bD (by decide +kernel)
abbrev BN:List Str:=["page","top","marks","thing"]
theorem qG:aN BN ["page","top"] (aI sC):=bD (by decide +kernel)
abbrev Lc:List Str:=["number"]
theorem Jf:aN Lc ["number"] (aI DF):=bD (by decide +kernel)
abbrev LN:List Str:=["number"]
theorem KA:aN LN ["number"] (aI Fv):=bD (by decide +kernel)
abbrev LC:List Str:=["number"]
theorem Ka:aN LC ["number"] (aI ET):=bD (by decide +kernel)
abbrev G9:List Str:=["numbers","lengths"]
theorem wB:aN G9 ["numbers"] (aI zH):=bD (by decide +kernel)
abbrev Kd:List Str:=["numbers","reader","things"]
theorem rZ:aN Kd ["numbers"] (aI Dm):=bD (by decide +kernel)
abbrev GQ:List Str:=["reader","room","leaders_allowed","count","things"]
theorem oM:aN GQ ["reader","room","leaders_allowed"] (aI yK):=bD (by decide +kernel)
abbrev IF:List Str:=["reader","room","leaders_allowed","start","kind","inner"]
theorem dB:aN IF ["reader","room","leaders_allowed"] (aI AU):=bD (by decide +kernel)
abbrev JP:List Str:=["reader","kind"]
theorem F5:aN JP ["reader","kind"] (aI AI):=bD (by decide +kernel)
abbrev KU:List Str:=["reader","side"]
theorem BZ:aN KU ["reader"] (aI Dq):=bD (by decide +kernel)
abbrev F8:List Str:=["reader","kind","room","leaders_allowed","before","behind"]
theorem o8:aN F8 ["reader","kind","room","leaders_allowed"] (aI yG):=bD (by decide +kernel)
abbrev Eo:List Str:=["reader","room","leaders_allowed","repeated"]
theorem sZ:aN Eo ["reader","room","leaders_allowed"] (aI vQ):=bD (by decide +kernel)
abbrev Cv:List Str:=["reader"]
theorem Av:aN Cv ["reader"] (aI rD):=bD (by decide +kernel)
abbrev Na:List Str:=["calls","press","told","answered","answer"]
theorem oH:aN Na ["calls"] (aI G_):=bD (by decide +kernel)
abbrev xP:List Str:=["press","told"]
theorem vY:aN xP ["press","told"] (aI nO):=bD (by decide +kernel)
abbrev GN:List Str:=["press","told","number"]
theorem FR:aN GN ["press","told","number"] (aI zM):=bD (by decide +kernel)
abbrev Iw:List Str:=["press","told","height","max_depth","top"]
theorem lT:aN Iw ["press","told"] (aI Bb):=bD (by decide +kernel)
abbrev Jg:List Str:=["press","told","number","factor","most","late","skip"]
theorem h_:aN Jg ["press","told"] (aI Ao):=bD (by decide +kernel)
abbrev Sa:List Str:=["press","told","things"]
theorem Pk:aN Sa ["press","told"] (aI QJ):=bD (by decide +kernel)
abbrev QX:List Str:=["press","told","things"]
theorem Mi:aN QX ["press","told"] (aI Of):=bD (by decide +kernel)
abbrev Rt:List Str:=["column"]
theorem Qh:aN Rt ["column"] (aI OP):=bD (by decide +kernel)
abbrev Ss:List Str:=["press","end","page","box","shares","number","column","marks","answer"]
theorem rX:aN Ss ["press"] (aI QA):=bD (by decide +kernel)
abbrev vN:List Str:=["page","shares","number","things"]
theorem fA:aN vN ["page"] (aI mD):=bD (by decide +kernel)
abbrev IE:List Str:=["things"]
theorem Gr:aN IE ["things"] (aI AA):=bD (by decide +kernel)
abbrev Gg:List Str:=["press","told","number"]
theorem vZ:aN Gg ["press","told"] (aI zG):=bD (by decide +kernel)
abbrev NU:List Str:=["press"]
theorem Mg:aN NU ["press"] (aI HQ):=bD (by decide +kernel)
abbrev Gv:List Str:=["press","count"]
theorem u0:aN Gv ["press"] (aI yV):=bD (by decide +kernel)
abbrev JJ:List Str:=["press","end"]
theorem xU:aN JJ ["press"] (aI BB):=bD (by decide +kernel)
abbrev Ku:List Str:=["press","told","place","page","cost"]
theorem nU:aN Ku ["press","told"] (aI CP):=bD (by decide +kernel)
abbrev JE:List Str:=["self","numbers","inner","sides"]
theorem yD:aN JE ["self","numbers","inner"] (aI B7):=bD (by decide +kernel)
abbrev KI:List Str:=["self"]
theorem Ir:aN KI ["self"] (aI DC):=bD (by decide +kernel)
abbrev BX:List Str:=["self","thing"]
theorem Af:aN BX ["self","thing"] (aI pW):=bD (by decide +kernel)
abbrev xC:List Str:=["self","glue"]
theorem uS:aN xC ["self","glue"] (aI nP):=bD (by decide +kernel)
abbrev xJ:List Str:=["self","greatest"]
theorem uY:aN xJ ["self","greatest"] (aI nJ):=bD (by decide +kernel)
abbrev DN:List Str:=["self","height","greatest_depth"]
theorem Ce:aN DN ["self","height","greatest_depth"] (aI s_):=bD (by decide +kernel)
abbrev JW:List Str:=["self","upper_part","penalty","rest"]
theorem Ii:aN JW ["self","upper_part","penalty","rest"] (aI DA):=bD (by decide +kernel)
abbrev Ji:List Str:=["self","height","max_depth","top"]
theorem Gz:aN Ji ["self","height","max_depth","top"] (aI AM):=bD (by decide +kernel)
abbrev Bc:List Str:=["self","skip","factor","most","late"]
theorem Ai:aN Bc ["self","skip","factor","most","late"] (aI pR):=bD (by decide +kernel)
abbrev Jp:List Str:=["self"]
theorem GG:aN Jp ["self"] (aI BU):=bD (by decide +kernel)
abbrev Kf:List Str:=["self","style","classes"]
theorem Jb:aN Kf ["self","style","classes"] (aI CM):=bD (by decide +kernel)
abbrev xD:List Str:=["self","glue"]
theorem uR:aN xD ["self","glue"] (aI nM):=bD (by decide +kernel)
abbrev kG:List Str:=["self","share"]
theorem gM:aN kG ["self"] (aI gT):=bD (by decide +kernel)
abbrev Gy:List Str:=["self","numbers"]
theorem Ff:aN Gy ["self","numbers"] (aI zA):=bD (by decide +kernel)
abbrev Gq:List Str:=["self","lowest","highest","number"]
theorem vE:aN Gq ["self","lowest","highest"] (aI zF):=bD (by decide +kernel)
abbrev tS:List Str:=["self","count","turn"]
theorem kT:aN tS ["self","count"] (aI k8):=bD (by decide +kernel)
abbrev z0:List Str:=["self"]
theorem xQ:aN z0 ["self"] (aI oJ):=bD (by decide +kernel)
abbrev Jl:List Str:=["self"]
theorem GI:aN Jl ["self"] (aI AE):=bD (by decide +kernel)
abbrev Ju:List Str:=["self","numbers"]
theorem Gu:aN Ju ["self","numbers"] (aI Bv):=bD (by decide +kernel)
abbrev xE:List Str:=["self","number"]
theorem mF:aN xE ["self"] (aI nF):=bD (by decide +kernel)
abbrev Cw:List Str:=["self","count","row"]
theorem kU:aN Cw ["self"] (aI qK):=bD (by decide +kernel)
end Cp
namespace Cp
open PySem PySem.Spec PyProof.Rows L2
open SbThing SbPack SgPage
def oU(t:bH)(o:HO):Prop:=(∃ ob u,o=.mH ob u)\/(∃ xs,o=.tup xs)\/∃ C dx fs,o=.ins C dx fs/\((C=t.cB/\fs.length=6)\/(C=t.iB/\fs.length=3)\/(C=t.b5/\fs.length=4))
def iV(t:bH)(H H':Hp):Prop:=∀ b o,oU t o->H b=some o->H' b=some o
section
variable {t:bH}{H H1 H2:Hp}{a b:Addr}{o o':HO}
theorem iV.trans(x:iV t H H1)(y:iV t H1 H2):iV t H H2:=fun b o c h=>y b o c (x b o c h)
theorem _root_.L2.aK.fix(x:aK H H1):iV t H H1:=fun b o _ h=>x b o h
theorem iV.chg(h:H a=some o)(n:¬ oU t o):iV t H (a6 H a o'):=fun b u c e=>by
 rw [aJ (fun z=>by subst z;rw [e] at h;cases h;exact n c)];exact e
theorem _root_.L2.aK.new(h:H a=none):aK H (a6 H a o):=fun b u e=>by rw [aJ (aH e h)];exact e
theorem kY{xs:List V}:¬ oU t (.lst xs):=by rintro (⟨_,_,h⟩|⟨_,h⟩|⟨_,_,_,h,_⟩)<;>cases h
theorem K_{xs:List (fY×V)}:¬ oU t (.dK xs):=by rintro (⟨_,_,h⟩|⟨_,h⟩|⟨_,_,_,h,_⟩)<;>cases h
theorem CJ{C dx:Addr}{fs:List (Str×V)}(h1:C≠t.cB)(h2:C≠t.iB)(h3:C≠t.b5):¬ oU t (.ins C dx fs):=by
 rintro (⟨_,_,h⟩|⟨_,h⟩|⟨_,_,_,h,z⟩)
 ·cases h
 ·cases h
 ·cases h;rcases z with z|z|z
  ·exact h1 z.1
  ·exact h2 z.1
  ·exact h3 z.1
theorem MI{dx:Addr}{fs:List (Str×V)}(h:fs.length≠6)(h2:t.cB≠t.iB)(h3:t.cB≠t.b5):¬ oU t (.ins t.cB dx fs):=by
 rintro (⟨_,_,z⟩|⟨_,z⟩|⟨_,_,_,z,y⟩)
 ·cases z
 ·cases z
 ·cases z;rcases y with y|y|y
  ·exact h y.2
  ·exact h2 y.1
  ·exact h3 y.1
def Fz(H:Hp)(a:Addr)(xs:List V):Prop:=∃ ob,H a=some (.mH ob (.lst xs))
theorem Fz.fix{xs:List V}(h:Fz H a xs)(x:iV t H H1):Fz H1 a xs:=let ⟨ob,e⟩:=h;⟨ob,x _ _ (.inl ⟨_,_,rfl⟩) e⟩
theorem Fz.rd{xs:List V}(h:Fz H a xs):Rd H a (.lst xs):=.inr h
theorem Fz.sq{K:Frag}{xs:List V}(h:Fz H a xs):cT K H a xs:=.inl h.rd
theorem _root_.L2.aK.rd{u:HO}(x:aK H H1)(h:Rd H a u):Rd H1 a u:=h.imp (fun e=>x _ _ e) fun ⟨o,e⟩=>⟨o,x _ _ e⟩
end
def kindOf:Thing->Int
 | .glyph _ _ _ _=>0
 | .kern _=>1
 | .glue _=>2
 | .leaders _ _ _=>3
 | .penalty _=>4
 | .rule _ _ _=>5
 | .box _ _ _ _ _ _ _=>6
 | .disc _ _ _=>7
 | .adjust _=>8
 | .mark _=>9
 | .insert _ _ _ _ _=>10
 | .anchor _=>11
def bI:Thing->Int
 | .kern k=>k
 | .glue g=>g.size
 | .leaders g _ _=>g.size
 | .rule _ h _=>h.getD 0
 | .box _ _ h _ _ _ _=>h
 | _=>0
def c7:Thing->Int
 | .rule _ _ d=>d.getD 0
 | .box _ _ _ d _ _ _=>d
 | _=>0
theorem Kh(x:Thing):inColumn x=bI x+c7 x:=by cases x<;>simp [inColumn,bI,c7]
def thF(k:Int)(nl il:V)(w h d:Int):List (Str×V):=[("kind",.int k),("numbers",nl),("inner",il),("width",.int w),("height",.int h),("depth",.int d)]
abbrev Cg(x:Thing)(nl il:V):List (Str×V):=thF (kindOf x) nl il (wideOf x) (bI x) (c7 x)
def tH:Thing->Bool
 | .insert _ _ _ _ _=>true
 | _=>false
inductive bQ(t:bH)(H:Hp):Addr->Thing->Prop where
 | plain {a dx nl:Addr} {il:V} {x:Thing}:tH x=false->H a=some (.ins t.cB dx (Cg x (.ref nl) il))->fits 9 x=true->Fz H nl ((nums 9 x).map V.int)->bQ t H a x
 | ins {a dx nl il:Addr} {c:Nat} {g:Glue} {d k:Int} {as:List Addr} {l:List Thing}:H a=some (.ins t.cB dx (Cg (.insert c g d k l) (.ref nl) (.ref il)))->fits 9 (.insert c g d k l)=true->Fz H nl ((nums 9 (.insert c g d k l)).map V.int) →
  Fz H il (as.map V.ref)->as.length=l.length->(∀ (i:Nat) (b:Addr) (y:Thing),as[i]?=some b->l[i]?=some y->bQ t H b y)->bQ t H a (.insert c g d k l)
structure aL(t:bH)(H:Hp)(as:List Addr)(l:List Thing):Prop where
 len:as.length=l.length
 at_:∀ (i:Nat) (b:Addr) (y:Thing),as[i]?=some b->l[i]?=some y->bQ t H b y
section
variable {t:bH}{H H1 H2:Hp}{a b:Addr}{x y:Thing}{as bs:List Addr}{l k:List Thing}
theorem bQ.fix(h:bQ t H a x)(f:iV t H H1):bQ t H1 a x:=by
 induction h with
 | plain n e ft z=>exact .plain n (f _ _ (.inr (.inr ⟨_,_,_,rfl,.inl ⟨rfl,rfl⟩⟩)) e) ft (z.fix f)
 | ins e ft z zi len _ ih=>exact .ins (f _ _ (.inr (.inr ⟨_,_,_,rfl,.inl ⟨rfl,rfl⟩⟩)) e) ft (z.fix f) (zi.fix f) len fun i b y h1 h2=>ih i b y h1 h2
theorem aL.fix(h:aL t H as l)(f:iV t H H1):aL t H1 as l:=⟨h.len,fun i b y h1 h2=>(h.at_ i b y h1 h2).fix f⟩
theorem bQ.obj(h:bQ t H a x):∃ dx nl il,H a=some (.ins t.cB dx (Cg x (.ref nl) il))/\Fz H nl ((nums 9 x).map V.int)/\fits 9 x=true:=by
 cases h with
 | plain n e ft z=>exact ⟨_,_,_,e,z,ft⟩
 | ins e ft z _ _ _=>exact ⟨_,_,_,e,z,ft⟩
theorem bQ.fits(h:bQ t H a x):Cp.fits 9 x=true:=h.obj.choose_spec.choose_spec.choose_spec.2.2
theorem bQ.inner{c:Nat}{g:Glue}{d k:Int}{l:List Thing}(h:bQ t H a (.insert c g d k l)):∃ dx nl il as,H a=some (.ins t.cB dx (Cg (.insert c g d k l) (.ref nl) (.ref il)))/\Fz H il (as.map V.ref)/\aL t H as l:=by
 cases h with
 | plain n=>cases n
 | ins e _ _ zi len h=>exact ⟨_,_,_,_,e,zi,len,h⟩
theorem aL.nil:aL t H [] []:=⟨rfl,fun i b y h=>by simp at h⟩
theorem aL.append(h:aL t H as l)(g:aL t H bs k):aL t H (as++bs) (l++k):=by
 refine ⟨by rw [length_append,length_append,h.len,g.len],fun i b y h1 h2=>?_⟩
 by_cases q:i<as.length
 ·rw [getElem?_append_left q] at h1
  rw [getElem?_append_left (by rw [<-h.len];exact q)] at h2
  exact h.at_ i b y h1 h2
 ·rw [getElem?_append_right (by omega)] at h1
  rw [getElem?_append_right (by rw [<-h.len];omega),<-h.len] at h2
  exact g.at_ _ b y h1 h2
theorem aL.one(h:bQ t H a x):aL t H [a] [x]:=by
 refine ⟨rfl,fun i b y h1 h2=>?_⟩
 cases i with
 | zero=>cases h1;cases h2;exact h
 | succ i=>simp at h1
theorem aL.take(h:aL t H as l)(n:Nat):aL t H (as.take n) (l.take n):=by
 refine ⟨by rw [length_take,length_take,h.len],fun i b y h1 h2=>?_⟩
 rw [List.getElem?_take] at h1 h2
 split at h1
 ·rename_i q;rw [if_pos q] at h2;exact h.at_ i b y h1 h2
 ·cases h1
theorem aL.drop(h:aL t H as l)(n:Nat):aL t H (as.drop n) (l.drop n):=by
 refine ⟨by rw [length_drop,length_drop,h.len],fun i b y h1 h2=>?_⟩
 rw [List.getElem?_drop] at h1 h2
 exact h.at_ _ b y h1 h2
theorem aL.get(h:aL t H as l){i:Nat}(e:as[i]?=some a):∃ y,l[i]?=some y/\bQ t H a y:=by
 have:i<l.length:=by rw [<-h.len];exact (List.getElem?_eq_some_iff.mp e).1
 exact ⟨_,getElem?_eq_getElem this,h.at_ i a _ e (getElem?_eq_getElem this)⟩
theorem aL.get'(h:aL t H as l){i:Nat}(e:l[i]?=some x):∃ a,as[i]?=some a/\bQ t H a x:=by
 have:i<as.length:=by rw [h.len];exact (List.getElem?_eq_some_iff.mp e).1
 exact ⟨_,getElem?_eq_getElem this,h.at_ i _ x (getElem?_eq_getElem this) e⟩
theorem wR{α:Type}{f:α->V}{l:List α}{i:Nat}{y:V}(h:(l.map f)[i]?=some y):∃ z,l[i]?=some z/\y=f z:=by
 rw [getElem?_map] at h
 cases e:l[i]? with
 | none=>rw [e] at h;cases h
 | some z=>rw [e] at h;exact ⟨z,rfl,(Option.some.inj h).symm⟩
end
theorem Ow:bootBuiltins "max"=some (.builtin "max"):=by decide +kernel
theorem IL:bootBuiltins "min"=some (.builtin "min"):=by decide +kernel
theorem NV:bootBuiltins "sorted"=some (.builtin "sorted"):=by decide +kernel
theorem QS:bootBuiltins "any"=some (.builtin "any"):=by decide +kernel
theorem sm{fs:List (Str×V)}(n:Nat)(h:fs.length=n:=by rfl)(h2:n<1000:=by decide):fs.length<1000:=by rw [h];exact h2
section
variable {X:Cx}{C:Addr}{f:Str}{e o value:Expr}{ta tv:TE}{pos pos' tpos:Pos}
inductive xAt(C:Addr)(f:Str)(x:V)(H:Hp)(Q:V->Prop):Prop
 | mk:∀ a dx fs v,x=.ref a->H a=some (.ins C dx fs)->fs.lookup f=some v->Q v->xAt C f x H Q
def tAt(C:Addr)(f:Str)(ta:TE):TE:=fun σ H Q=>ta σ H fun x H1=>xAt C f x H1 fun v=>Q v H1
theorem aZ(cl:Cls X.K C)(na:bP X.K C f)(he:PE X e ta)(hb:attributeBase e f X.env (eval e X.env)=eval e X.env:=by rfl):PE X (.Attribute e f pos) (tAt C f ta):=by
 intro pins s σ H Q I h
 refine D4 hb (eD (he pins s σ H _ I h) fun u s1 ⟨x,H1,I1,rx,a,dx,fs,v,ex,ea,l,q⟩=>?_)
 subst ex
 have hu:u=Value.ref a:=rx
 subst hu
 exact o9 I1 ea cl na l fun u' s2 I2 ru=>⟨v,H1,I2,ru,q⟩
inductive xSt(C:Addr)(f:Str)(x y:V)(H:Hp)(Q:Hp->Prop):Prop
 | mk:∀ a dx fs,x=.ref a->H a=some (.ins C dx fs)->fs.length<1000->Q (a6 H a (.ins C dx (mU f y fs)))->xSt C f x y H Q
def sAt(C:Addr)(f:Str)(ta tv:TE):TS:=fun D σ H=>tv σ H fun y H1=>ta σ H1 fun x H2=>xSt C f x y H2 fun H3=>D.nx σ H3
theorem bT(cl:Cls X.K C)(na:bP X.K C f)(ha:PE X o ta)(hv:PE X value tv)(hs:swapsWith value (some (.Attribute o f pos')) pos.line X.env=pure false:=by rfl):PS X (.Assign [.Attribute o f pos'] value pos) (sAt C f ta tv):=by
 intro pins s σ H D I h
 refine plainObj_wpAny_Assign_Attribute (eD (hv pins s σ H _ I h) fun u s1 ⟨y,H1,I1,ry,q⟩=>eD (ha pins s1 σ H1 _ I1 q) fun ov s2 ⟨x,H2,I2,rx,a,dx,fs,ex,ea,l,q2⟩=>?_) hs
 subst ex
 have hu:ov=Value.ref a:=rx
 subst hu
 exact FH I2 ea cl na l ry fun s3 I3=>⟨σ,_,I3,q2⟩
inductive xAg(C:Addr)(f:Str)(x:V)(H:Hp)(Q:Addr->V->Prop):Prop
 | mk:∀ a dx fs v,x=.ref a->H a=some (.ins C dx fs)->fs.lookup f=some v->Q a v->xAg C f x H Q
inductive xSa(C:Addr)(f:Str)(a:Addr)(z:V)(H:Hp)(Q:Hp->Prop):Prop
 | mk:∀ dx fs,H a=some (.ins C dx fs)->fs.length<1000->Q (a6 H a (.ins C dx (mU f z fs)))->xSa C f a z H Q
def RD(C:Addr)(f:Str)(ta tv:TE)(rd:V->V->Hp->VK->Prop):TS:=fun D σ H=>ta σ H fun x H1=>xAg C f x H1 fun a v=>tv σ H1 fun y H2=>rd v y H2 fun z H3=>xSa C f a z H3 fun H4=>D.nx σ H4
theorem gL{op:Operator}{rd:V->V->Hp->VK->Prop}(cl:Cls X.K C)(na:bP X.K C f)(ha:PE X o ta)(hv:PE X value tv)(hop:Q6 X op rd):PS X (.AugAssign (.Attribute o f tpos) op value pos) (RD C f ta tv rd):=by
 intro pins s σ H D I h
 refine wpAny_AugAssign_AttributeAny (eD (ha pins s σ H _ I h) fun ov s1 ⟨x,H1,I1,rx,a,dx,fs,v,ex,ea,l,q⟩=>?_)
 subst ex
 have hu:ov=Value.ref a:=rx
 subst hu
 refine o9 I1 ea cl na l fun u s2 I2 ru=>eD (hv pins s2 σ H1 _ I2 q) fun w3 s3 ⟨y,H2,I3,ry,q3⟩=>eD (hop pins s3 σ H2 v y u w3 _ I3 ru ry q3) fun w4 s4 ⟨z,H3,I4,rz,dx',fs',ea',l',q4⟩=>?_
 exact FH I4 ea' cl na l' rz fun s5 I5=>⟨σ,_,I5,q4⟩
inductive xTh(t:bH)(x:V)(H:Hp)(Q:Thing->Prop):Prop
 | mk:∀ a y,x=.ref a->bQ t H a y->Q y->xTh t x H Q
def tTh(t:bH)(g:Thing->Int)(ta:TE):TE:=fun σ H Q=>ta σ H fun x H1=>xTh t x H1 fun y=>Q (.int (g y)) H1
theorem fZ{t:bH}{g:Thing->Int}(cl:Cls X.K t.cB)(na:bP X.K t.cB f)(hg:∀ y nl il,(Cg y nl il).lookup f=some (.int (g y)))(he:PE X e ta)(hb:attributeBase e f X.env (eval e X.env)=eval e X.env:=by rfl):PE X (.Attribute e f pos) (tTh t g ta):=by
 intro pins s σ H Q I h
 refine D4 hb (eD (he pins s σ H _ I h) fun u s1 ⟨x,H1,I1,rx,a,y,ex,ea,q⟩=>?_)
 subst ex
 have hu:u=Value.ref a:=rx
 subst hu
 obtain ⟨dx,nl,il,ea,_⟩:=ea.obj
 exact o9 I1 ea cl na (hg _ _ _) fun u' s2 I2 ru=>⟨_,H1,I2,ru,q⟩
def Sx(t:bH)(ta:TE):TE:=fun σ H Q=>ta σ H fun x H1=>xTh t x H1 fun y=>∀ nl,Fz H1 nl ((nums 9 y).map V.int)->Q (.ref nl) H1
theorem r9{t:bH}(cl:Cls X.K t.cB)(na:bP X.K t.cB "numbers")(he:PE X e ta)(hb:attributeBase e "numbers" X.env (eval e X.env)=eval e X.env:=by rfl):PE X (.Attribute e "numbers" pos) (Sx t ta):=by
 intro pins s σ H Q I h
 refine D4 hb (eD (he pins s σ H _ I h) fun u s1 ⟨x,H1,I1,rx,a,y,ex,ea,q⟩=>?_)
 subst ex
 have hu:u=Value.ref a:=rx
 subst hu
 obtain ⟨dx,nl,il,ea,z,_⟩:=ea.obj
 exact o9 I1 ea cl na rfl fun u' s2 I2 ru=>⟨_,H1,I2,ru,q nl z⟩
inductive RK(t:bH)(x:V)(H:Hp)(Q:List Thing->Prop):Prop
 | mk:∀ a c g d k l,x=.ref a->bQ t H a (.insert c g d k l)->Q l->RK t x H Q
def S1(t:bH)(ta:TE):TE:=fun σ H Q=>ta σ H fun x H1=>RK t x H1 fun l=>∀ il as,Fz H1 il (as.map V.ref)->aL t H1 as l->Q (.ref il) H1
theorem JA{t:bH}(cl:Cls X.K t.cB)(na:bP X.K t.cB "inner")(he:PE X e ta)(hb:attributeBase e "inner" X.env (eval e X.env)=eval e X.env:=by rfl):PE X (.Attribute e "inner" pos) (S1 t ta):=by
 intro pins s σ H Q I h
 refine D4 hb (eD (he pins s σ H _ I h) fun u s1 ⟨x,H1,I1,rx,a,c,g,d,k,l,ex,ea,q⟩=>?_)
 subst ex
 have hu:u=Value.ref a:=rx
 subst hu
 obtain ⟨dx,nl,il,as,ea,z,r⟩:=ea.inner
 exact o9 I1 ea cl na rfl fun u' s2 I2 ru=>⟨_,H1,I2,ru,q il as z r⟩
theorem thK(y:Thing)(nl il:V):(Cg y nl il).lookup ("kind":Str)=some (.int (kindOf y)):=rfl
theorem thW(y:Thing)(nl il:V):(Cg y nl il).lookup ("width":Str)=some (.int (wideOf y)):=rfl
theorem thH(y:Thing)(nl il:V):(Cg y nl il).lookup ("height":Str)=some (.int (bI y)):=rfl
theorem thD(y:Thing)(nl il:V):(Cg y nl il).lookup ("depth":Str)=some (.int (c7 y)):=rfl
end
section
variable {X:Cx}{CX:CXT}{E:XK}{k j:Nat}{ps:List Str}{sp:Sp}{x q:Str}{st:Stmt}{d:FD}{e a b:Expr}{es:List Expr}{t:TA}{p pos:Pos}{C:Addr}{ta tb:TE}
theorem sz(n:Nat)(h:n<=100:=by decide):n<=sizeLine:=Nat.le_trans h (by decide)
theorem cf(F:bL X.prog X.w X.K X.mg X.base CX k d.f d.fd ps sp)(D:gP X.K X.mg x q st ps d)(hr:iW j X.A)(hx:lA CX X E)(ha:PA X (e::es) t)(hj:k<=j:=by first|decide|omega)(hg:Gl X x:=by rfl)(hdb:(x==("__debug__":Str))=false:=by decide)(he:starEach (e::es) X.env=(false,eval e X.env)::starEach es X.env:=by rfl)(hpl:(backTo pos (starEach es X.env)).any (·.1)=false:=by rfl):PE X (.Call (.Name x p) (e::es) [] pos) (Hh sp [] E t):=Ea F (hr.mono hj) hg D.m D.F.kp D.b .nil hx ha hdb he hpl
theorem cz(F:bL X.prog X.w X.K X.mg X.base CX k d.f d.fd ps sp)(D:gP X.K X.mg x q st ps d)(hr:iW j X.A)(hx:lA CX X E)(hj:k<=j:=by first|decide|omega)(hg:Gl X x:=by rfl)(hdb:(x==("__debug__":Str))=false:=by decide):PE X (.Call (.Name x p) [] [] pos) (Hh sp [] E Gb):=N7 F (hr.mono hj) hg D.m D.F.kp D.b .nil hx hdb
theorem cn(F:bL X.prog X.w X.K X.mg X.base hJ k d.f d.fd ps sp)(D:InT X.K X.mg C x q st ps d)(hr:iW j X.A)(ha:PA X (e::es) t)(hj:k+1<=j:=by first|decide|omega)(hg:Gl X x:=by rfl)(hdb:(x==("__debug__":Str))=false:=by decide)(he:starEach (e::es) X.env=(false,eval e X.env)::starEach es X.env:=by rfl)(hpl:(backTo pos (starEach es X.env)).any (·.1)=false:=by rfl):PE X (.Call (.Name x p) (e::es) [] pos) (Pe C sp [] E0 t):=Py D.make F (hr.mono hj) hg D.g D.b .nil aV ha hdb he hpl
theorem ln(hm:X.mg "len"=none)(ha:PE X e ta)(hg:Gl X "len":=by rfl)(he:starEach [e] X.env=(false,eval e X.env)::starEach [] X.env:=by rfl)(hpl:(backTo pos (starEach [] X.env)).any (·.1)=false:=by rfl):PE X (.Call (.Name "len" p) [e] [] pos) (tCB (Mx X.K) (HC ta Gb)):=jI B9 hg hm PySem.boot_len (aA ha aF he) (by decide) (by decide) he hpl
theorem ix(ha:PE X a ta)(hb:PE X b tb)(hs:IT b:=by exact fun _ _=>rfl):PE X (.Subscript a b pos) (tOp (Ls X.K) ta tb):=KN MA ha hb hs
theorem tc{op:CmpOp}{r:R2}(ho:Dr X (compareOp op) r)(ha:PE X a ta)(hb:PE X b tb)(hm:behindInMarks op b=false:=by exact N8 _):PT X (.Compare a [op] [b] pos) (Oq (tOp r ta tb)):=BY ho ha hb hm
theorem ec{op:CmpOp}{r:R2}(ho:Dr X (compareOp op) r)(ha:PE X a ta)(hb:PE X b tb)(hm:behindInMarks op b=false:=by exact N8 _):PE X (.Compare a [op] [b] pos) (tOp r ta tb):=PX ho ha hb hm
theorem sv(i:Nat){x:Str}{e:Expr}{te:TE}{pos':Pos}(hN:X.N.Nodup)(he:PE X e te)(hi:X.N[i]?=some x:=by rfl)(hx:Loc X.env.scope x:=by exact .inl rfl)(hs:swapsWith e (some (.Name x pos')) pos.line X.env=pure false:=by rfl)(hf:X.fn x=true\/X.env.scope.names.lookup x=some .local:=by first|exact .inl rfl|exact .inr rfl):PS X (.Assign [.Name x pos'] e pos) (Rp te (Kp i)):=Rg hN hi hx he hs hf
theorem _root_.L2.iW.m{A:Around}(r:iW k A)(h:j<=k:=by first|decide|omega):iW j A:=r.mono h
end
theorem aQ{c:Bool}{A B:Prop}(h1:c=true->A)(h2:c=false->B):if c=true then A else B:=by
 cases c with
 | true=>exact h1 rfl
 | false=>exact h2 rfl
section
variable {X:Cx}
def R7(t:TS):TS:=fun D σ H=>RS t D σ H\/t D σ H
theorem Qe{st:Stmt}{t:TS}(h:PS X st t):PS X st (R7 t):=by
 intro pins s σ H D I hw
 rcases hw with hw|hw
 ·exact IX h pins s σ H D I hw
 ·exact h pins s σ H D I hw
end
section
variable {P:Program}{w:World}{K:Frag}{mg:Str->Option Value}{base:Heap}
theorem _root_.L2.Fun.C_{x qual:Str}{st:Stmt}{f:Addr}{fd:FuncData}{N ps:List Str}{k:Nat}{sp:Sp}(F:Fun K x qual st f fd)(S:aN N ps (aI st))(len:∀ vs H Q E,sp vs H Q E->vs.length=ps.length)
 (hbody:∀ (cdv:Value) (A:Around) (outer:List Env) (s:Shared) (H:Hp) (vs:List V) (Q:VK) (E:XK),iW k (A.deeper (envOfC qual (aI st) s.heap.objs.size f cdv))->sp vs H Q E →
  ∃ t,PSs (uH (nG P w) P w K mg base N qual (aI st) f cdv A outer s H E) (eO st) t/\t { nx:=fun _ H'=>Q .eX H',rt:=Q } (start N vs) H):bL P w K mg base (nG P w) (k+1) f fd ps sp:=by
 obtain ⟨oc,od,kV,doc,pm,an,cdv,ct,osl,rfl,lk,hcd⟩:=F.ex
 exact QD lk hcd S len fun A outer s H vs Q E hr hsp=>hbody cdv A outer s H vs Q E hr hsp
def PQ(t:bH)(g:Thing->V):Sp:=fun vs H Q _=>∃ a x,vs=[.ref a]/\bQ t H a x/\Q (g x) H
abbrev KY(t:bH)(K:Frag):Sp:=PQ t fun x=>.bl (cV x)
abbrev LS(t:bH)(K:Frag):Sp:=PQ t fun x=>.bl (isGlue x)
abbrev Gn(t:bH)(K:Frag):Sp:=PQ t fun x=>.bl (dropped x)
abbrev Ga(t:bH)(K:Frag):Sp:=PQ t fun x=>.int (penaltyOf x)
theorem HY(x:Thing):cV x=(decide (kindOf x=6)||decide (kindOf x=5)):=by cases x<;>rfl
theorem KO(x:Thing):isGlue x=(decide (kindOf x=2)||decide (kindOf x=3)):=by cases x<;>rfl
theorem Cc(x:Thing):dropped x=(isGlue x||(decide (kindOf x=1)||decide (kindOf x=4))):=by cases x<;>rfl
theorem a8(i j:Int):decide (V.int i=V.int j)=decide (i=j):=by
 by_cases h:i=j
 ·subst h;simp
 ·rw [decide_eq_false h,decide_eq_false (fun z=>h (V.int.inj z))]
theorem Df{t:bH}(T:b7 K mg t):bL P w K mg base hJ 1 t.pD.f t.pD.fd ["thing"] (KY t K):=by
 refine T.pD.F.ok Ld (fun vs H Q E h=>?_) (fun cdv A outer s H vs Q E hr h=>?_)
 ·obtain ⟨a,x,rfl,_⟩:=h
  rfl
 ·obtain ⟨a,x,rfl,hT,q⟩:=h
  have q:∀ b,cV x=b->Q (.bl b) H:=fun b e=>e▸q
  refine ⟨_,(aE (aM (KZ (ec bY (fZ T.aP.cl T.bS thK (pv 0)) (aW T.yF)) (qC (ec bY (fZ T.aP.cl T.bS thK (pv 0)) (aW T.Ah)))))),?_⟩
  refine ⟨_,rfl,a,x,rfl,hT,rfl,_,rfl,aQ (fun z=>q _ ?_) fun z=>⟨_,rfl,a,x,rfl,hT,rfl,q _ ?_⟩⟩
  ·rw [HY,<-a8,z];rfl
  ·rw [HY,<-a8,z,a8];rfl
theorem o_{t:bH}(T:b7 K mg t):bL P w K mg base hJ 1 t.lV.f t.lV.fd ["thing"] (LS t K):=by
 refine T.lV.F.ok Md (fun vs H Q E h=>?_) (fun cdv A outer s H vs Q E hr h=>?_)
 ·obtain ⟨a,x,rfl,_⟩:=h
  rfl
 ·obtain ⟨a,x,rfl,hT,q⟩:=h
  have q:∀ b,isGlue x=b->Q (.bl b) H:=fun b e=>e▸q
  refine ⟨_,(aE (aM (KZ (ec bY (fZ T.aP.cl T.bS thK (pv 0)) (aW T.Fn)) (qC (ec bY (fZ T.aP.cl T.bS thK (pv 0)) (aW T.rA)))))),?_⟩
  refine ⟨_,rfl,a,x,rfl,hT,rfl,_,rfl,aQ (fun z=>q _ ?_) fun z=>⟨_,rfl,a,x,rfl,hT,rfl,q _ ?_⟩⟩
  ·rw [KO,<-a8,z];rfl
  ·rw [KO,<-a8,z,a8];rfl
theorem qA{t:bH}(T:b7 K mg t):bL P w K mg base hJ 2 t.iO.f t.iO.fd ["thing"] (Gn t K):=by
 refine T.iO.F.ok G4 (fun vs H Q E h=>?_) (fun cdv A outer s H vs Q E hr h=>?_)
 ·obtain ⟨a,x,rfl,_⟩:=h
  rfl
 ·obtain ⟨a,x,rfl,hT,q⟩:=h
  have q:∀ b,dropped x=b->Q (.bl b) H:=fun b e=>e▸q
  refine ⟨_,(aE (aM (KZ (cf (o_ T) T.lV hr aV (aA (pv 0) aF)) (KZ (ec bY (fZ T.aP.cl T.bS thK (pv 0)) (aW T.Cq)) (qC (ec bY (fZ T.aP.cl T.bS thK (pv 0)) (aW T.lC))))))),?_⟩
  refine ⟨_,rfl,a,x,rfl,hT,_,rfl,aQ (fun z=>q _ ?_) fun z=>⟨_,rfl,a,x,rfl,hT,rfl,_,rfl,aQ (fun z1=>q _ ?_) fun z1=>⟨_,rfl,a,x,rfl,hT,rfl,q _ ?_⟩⟩⟩
  ·rw [Cc,z];rfl
  ·rw [Cc,z,<-a8,z1];rfl
  ·rw [Cc,z,<-a8,z1,a8];rfl
theorem pQ{x:Thing}{i:Nat}{v:Int}(h:(nums 9 x)[i]?=some v):atI ((nums 9 x).map V.int) (i:Int)=some (.int v):=b6 (by rw [getElem?_map,h];rfl)
theorem iA{t:bH}(T:b7 K mg t):bL P w K mg base hJ 1 t.eZ.f t.eZ.fd ["thing"] (Ga t K):=by
 refine T.eZ.F.ok F6 (fun vs H Q E h=>?_) (fun cdv A outer s H vs Q E hr h=>?_)
 ·obtain ⟨a,x,rfl,_⟩:=h
  rfl
 ·obtain ⟨a,x,rfl,hT,q⟩:=h
  have q:∀ b,penaltyOf x=b->Q (.int b) H:=fun b e=>e▸q
  refine ⟨_,(aB (a_ (tc bY (fZ T.aP.cl T.bS thK (pv 0)) (aW T.lC)) (aE (aM (ix (r9 T.aP.cl T.cI (pv 0)) aG))) aR) (aE (aM aG))),?_⟩
  refine ⟨_,rfl,a,x,rfl,hT,rfl,_,rfl,aQ (fun z=>?_) fun z=>q _ ?_⟩
  ·rw [a8,decide_eq_true_eq] at z
   cases x with
   | penalty k=>exact ⟨_,rfl,a,_,rfl,hT,fun nl hz=>⟨nl,_,_,_,rfl,rfl,hz.sq,pQ (i:=1) rfl,q _ rfl⟩⟩
   | _=>cases z
  ·rw [a8,decide_eq_false_iff_not] at z
   cases x with
   | penalty k=>exact absurd rfl z
   | _=>rfl
def eU(g:Glue):List V:=(glueNums g).map V.int
inductive tK(t:bH)(K:Frag)(vs:List V)(H:Hp)(Q:VK)(E:XK):Prop
 | mk:∀ a x g,vs=[.ref a]->bQ t H a x->glueOf x=some g->(∀ p,H p=none->Q (.ref p) (a6 H p (.lst (eU g))))->tK t K vs H Q E
theorem w9(xs:List V)(i j:Nat)(hj:j<=xs.length)(hi:i<=j):jB xs (some (i:Int)) (some (j:Int))=(xs.drop i).take (j - i):=by
 unfold jB
 rw [HT.pZ,HT.pZ,Nat.min_eq_left hj,Nat.min_eq_left (Nat.le_trans hi hj)]
theorem Oa{x:Thing}{g:Glue}(h:glueOf x=some g)(f:fits 9 x=true):jB ((nums 9 x).map V.int) (some 1) (some 6)=eU g:=by
 have e:∃ r,nums 9 x=kindOf x::(glueNums g++r):=by
  cases x with
  | glue g'=>cases h;exact ⟨[],by simp [nums,kindOf]⟩
  | leaders g' how y=>cases h;exact ⟨_,rfl⟩
  | _=>cases h
 obtain ⟨r,e⟩:=e
 have:=w9 ((nums 9 x).map V.int) 1 6 (by rw [e];simp [glueNums]) (by omega)
 rw [show ((1:Nat):Int)=1 from rfl,show ((6:Nat):Int)=6 from rfl] at this
 rw [this,e]
 simp [eU,glueNums]
theorem tF{t:bH}(T:b7 K mg t):bL P w K mg base hJ 1 t.gU.f t.gU.fd ["thing"] (tK t K):=by
 refine T.gU.F.ok DU (fun vs H Q E h=>?_) (fun cdv A outer s H vs Q E hr h=>?_)
 ·obtain ⟨a,x,g,rfl,_⟩:=h
  rfl
 ·obtain ⟨a,x,g,rfl,hT,hg,q⟩:=h
  refine ⟨_,(aE (aM (eF gB (r9 T.aP.cl T.cI (pv 0)) (dM aG) (dM aG)))),?_⟩
  refine ⟨_,rfl,a,x,rfl,hT,fun nl hz=>⟨_,rfl,_,rfl,nl,_,rfl,hz.sq,fun p hp=>?_⟩⟩
  rw [Oa hg hT.fits]
  exact q p hp
def OG(t:bH)(f:Nat->Glue->Int->Int->V):Sp:=fun vs H Q _=>∃ a c g d k l,vs=[.ref a]/\bQ t H a (.insert c g d k l)/\Q (f c g d k) H
abbrev zT(t:bH)(K:Frag):Sp:=OG t fun c _ _ _=>.int c
abbrev Al(t:bH)(K:Frag):Sp:=OG t fun _ _ d _=>.int d
abbrev AG(t:bH)(K:Frag):Sp:=OG t fun _ _ _ k=>.int k
theorem Ae{t:bH}(T:b7 K mg t):bL P w K mg base hJ 1 t.fG.f t.fG.fd ["thing"] (zT t K):=by
 refine T.fG.F.ok zU (fun vs H Q E h=>?_) (fun cdv A outer s H vs Q E hr h=>?_)
 ·obtain ⟨a,c,g,d,k,l,rfl,_⟩:=h
  rfl
 ·obtain ⟨a,c,g,d,k,l,rfl,hT,q⟩:=h
  refine ⟨_,(aE (aM (ix (r9 T.aP.cl T.cI (pv 0)) aG))),?_⟩
  exact ⟨_,rfl,a,_,rfl,hT,fun nl hz=>⟨nl,_,_,_,rfl,rfl,hz.sq,pQ (i:=1) rfl,q⟩⟩
theorem zO{t:bH}(T:b7 K mg t):bL P w K mg base hJ 1 t.fI.f t.fI.fd ["thing"] (Al t K):=by
 refine T.fI.F.ok Ak (fun vs H Q E h=>?_) (fun cdv A outer s H vs Q E hr h=>?_)
 ·obtain ⟨a,c,g,d,k,l,rfl,_⟩:=h
  rfl
 ·obtain ⟨a,c,g,d,k,l,rfl,hT,q⟩:=h
  refine ⟨_,(aE (aM (ix (r9 T.aP.cl T.cI (pv 0)) aG))),?_⟩
  exact ⟨_,rfl,a,_,rfl,hT,fun nl hz=>⟨nl,_,_,_,rfl,rfl,hz.sq,pQ (i:=7) rfl,q⟩⟩
theorem AJ{t:bH}(T:b7 K mg t):bL P w K mg base hJ 1 t.gD.f t.gD.fd ["thing"] (AG t K):=by
 refine T.gD.F.ok Bj (fun vs H Q E h=>?_) (fun cdv A outer s H vs Q E hr h=>?_)
 ·obtain ⟨a,c,g,d,k,l,rfl,_⟩:=h
  rfl
 ·obtain ⟨a,c,g,d,k,l,rfl,hT,q⟩:=h
  refine ⟨_,(aE (aM (ix (r9 T.aP.cl T.cI (pv 0)) aG))),?_⟩
  exact ⟨_,rfl,a,_,rfl,hT,fun nl hz=>⟨nl,_,_,_,rfl,rfl,hz.sq,pQ (i:=8) rfl,q⟩⟩
inductive pN(t:bH)(K:Frag)(vs:List V)(H:Hp)(Q:VK)(E:XK):Prop
 | mk:∀ a c g d k l,vs=[.ref a]->bQ t H a (.insert c g d k l)->(∀ p,H p=none->Q (.ref p) (a6 H p (.lst (eU g))))->pN t K vs H Q E
theorem Aw{t:bH}(T:b7 K mg t):bL P w K mg base hJ 1 t.gG.f t.gG.fd ["thing"] (pN t K):=by
 refine T.gG.F.ok Bk (fun vs H Q E h=>?_) (fun cdv A outer s H vs Q E hr h=>?_)
 ·obtain ⟨a,c,g,d,k,l,rfl,_⟩:=h
  rfl
 ·obtain ⟨a,c,g,d,k,l,rfl,hT,q⟩:=h
  refine ⟨_,(aE (aM (eF gB (r9 T.aP.cl T.cI (pv 0)) (dM aG) (dM aG)))),?_⟩
  refine ⟨_,rfl,a,_,rfl,hT,fun nl hz=>⟨_,rfl,_,rfl,nl,_,rfl,hz.sq,fun p hp=>?_⟩⟩
  have e:jB ((nums 9 (.insert c g d k l)).map V.int) (some 2) (some 7)=eU g:=by
   have:=w9 ((nums 9 (.insert c g d k l)).map V.int) 2 7 (by simp [nums,glueNums]) (by omega)
   rw [show ((2:Nat):Int)=2 from rfl,show ((7:Nat):Int)=7 from rfl] at this
   rw [this]
   simp [eU,glueNums,nums]
  rw [e]
  exact q p hp
inductive tE(t:bH)(K:Frag)(vs:List V)(H:Hp)(Q:VK)(E:XK):Prop
 | mk:∀ la as l,vs=[.ref la]->cT K H la (as.map V.ref)->aL t H as l->gA l<16000000->(∀ p,H p=none->Q (.ref p) (a6 H p (.lst (((l.length:Int)::l.flatMap (nums 9)).map V.int))))->tE t K vs H Q E
theorem H_{l:List Thing}{i:Nat}{x:Thing}(h:l[i]?=some x):(l.take (i+1)).flatMap (nums 9)=(l.take i).flatMap (nums 9)++nums 9 x:=by
 rw [List.take_add_one,h,List.flatMap_append];simp
theorem eA{t:bH}(T:b7 K mg t):bL P w K mg base hJ 1 t.cM.f t.cM.fd ["things"] (tE t K):=by
 refine T.cM.F.ok mX (fun vs H Q E h=>?_) (fun cdv A outer s H vs Q E hr h=>?_)
 ·obtain ⟨la,as,l,rfl,_⟩:=h
  rfl
 ·obtain ⟨la,as,l,rfl,hL,hT,hz,q⟩:=h
  have hlen:=nX (l:=l) (all_eq_true.mpr fun y hy=>by
   obtain ⟨i,hi⟩:=List.mem_iff_getElem?.mp hy
   obtain ⟨a,_,h2⟩:=hT.get' hi
   exact h2.fits)
  refine ⟨_,(aB (sv 1 mX.nd (bR (aA (ln T.f_ (pv 0)) aF))) (aB (p7 PassesOwn.never rfl (wQ (pv 0)) (i8 (i:=2) mX.nd rfl (Or.inl rfl)) (aE (bJ (yM PySem.F.plainAttrs_list PySem.F.slot_list_extend PySem.F.type_list_extend EO (pv 1) (aA (r9 T.aP.cl T.cI (pv 2)) aF))))) (aE (aM (pv 1))))),?_⟩
  refine ⟨_,rfl,la,_,rfl,.inl hL,(sz 1),fun p hp=>?_⟩
  have s1:∀ o,aK H (a6 H p o):=fun o=>aK.new hp
  refine ⟨_,rfl,la,rfl,⟨_,(s1 _).seq hL⟩,BA (K:=K) (a:=la) (xs:=as.map V.ref) (fun i σ H'=>∃ v:Option V,σ=[some (.ref la),some (.ref p),v]/\H'=a6 H p (.lst (((l.length:Int)::(l.take i).flatMap (nums 9)).map V.int)))
   ⟨none,rfl,by rw [length_map,hT.len];rfl⟩ (fun i σ H' _ ⟨_,_,e⟩=>by rw [e];exact (s1 _).seq hL) ?_ ?_⟩
  ·rintro i y σ H' hi ⟨v,rfl,rfl⟩
   obtain ⟨a,ha,rfl⟩:=wR hi
   obtain ⟨x,hx,hA⟩:=hT.get ha
   refine ⟨_,rfl,.inl ⟨rfl,_,cT.of aD⟩,_,rfl,a,x,rfl,hA.fix (s1 _).fix,fun nl hn=>⟨p,nl,_,_,rfl,rfl,aD,hn.rd,?_,?_⟩⟩
   ·have h1:=kJ (List.take_sublist (i+1) l)
    have h2:=H_ hx
    have h3:((l.take i).flatMap (nums 9)).length+(nums 9 x).length=gA (l.take (i+1)):=by unfold gA;rw [h2,length_append]
    rw [length_map,length_map,length_cons,sizeLine_eq]
    omega
   ·refine ⟨_,rfl,?_⟩
    rw [bU,H_ hx,<-map_append,List.cons_append]
  ·rintro σ H' ⟨v,rfl,rfl⟩
   refine ⟨_,rfl,?_⟩
   have e:l.take (as.map V.ref).length=l:=by rw [length_map,hT.len,List.take_length]
   rw [e]
   exact q p hp
def FE(o:Option Int):V:=.int (o.getD 0)
inductive yA(t:bH)(K:Frag)(vs:List V)(H:Hp)(Q:VK)(E:XK):Prop
 | mk:∀ nl w h d,vs=[.ref nl]->cT K H nl ((nums 9 (.rule w h d)).map V.int)->(∀ tp H',aK H H'->H' tp=some (.tup [FE w,FE h,FE d])->Q (.ref tp) H')->yA t K vs H Q E
theorem Qi(os:List (Option Int))(k:Nat)(o:Option Int)(ho:os[k]?=some o)(j:Nat)(v:Int)(hv:(optNums o)[j]?=some v):(5::os.flatMap optNums)[1+((os.take k).flatMap optNums).length+j]?=some v:=by
 have e:os=os.take k++o::os.drop (k+1):=by
  obtain ⟨h,e⟩:=List.getElem?_eq_some_iff.mp ho
  rw [<-e,<-List.drop_eq_getElem_cons h,List.take_append_drop]
 have:1+((os.take k).flatMap optNums).length+j=((os.take k).flatMap optNums).length+j+1:=by omega
 rw [this,List.getElem?_cons_succ]
 conv=>lhs;arg 1;rw [e]
 rw [List.flatMap_append,List.flatMap_cons,getElem?_append_right (by omega),Nat.add_sub_cancel_left,getElem?_append_left (List.getElem?_eq_some_iff.mp hv).1]
 exact hv
theorem G6{t:bH}(T:b7 K mg t):bL P w K mg base hJ 1 t.lK.f t.lK.fd ["numbers"] (yA t K):=by
 refine T.lK.F.ok jF (fun vs H Q E h=>?_) (fun cdv A outer s H vs Q E hr h=>?_)
 ·obtain ⟨nl,ww,hh,d,rfl,_⟩:=h
  rfl
 ·obtain ⟨nl,ww,hh,d,rfl,hN,q⟩:=h
  have en:nums 9 (.rule ww hh d)=5::[ww,hh,d].flatMap optNums:=by simp [nums]
  rw [en] at hN
  refine ⟨_,(aB (sv 1 jF.nd (bR aF)) (aB (sv 2 jF.nd aG) (aB (BR PassesOwn.never (tc nA (ln T.f_ (pv 1)) aG) (aE (a_ (tc bY (ix (pv 0) (pv 2)) aG) (aB (bJ (yM PySem.F.plainAttrs_list PySem.F.slot_list_append PySem.F.type_list_append j1 (pv 1) (aA (ix (pv 0) (bW iK (pv 2) aG)) aF))) (aE (L1 (i:=2) jF.nd rfl (Or.inl rfl) aG CF))) (aB (bJ (yM PySem.F.plainAttrs_list PySem.F.slot_list_append PySem.F.type_list_append j1 (pv 1) (aA aG aF))) (aE (L1 (i:=2) jF.nd rfl (Or.inl rfl) aG CF)))))) (aE (aM (pG (aA (ix (pv 1) aG) (aA (ix (pv 1) aG) (aA (ix (pv 1) aG) aF))))))))),?_⟩
  refine ⟨Nat.zero_le _,fun p hp=>?_⟩
  have s1:∀ o,aK H (a6 H p o):=fun o=>aK.new hp
  refine ⟨fun m σ H'=>∃ k,k+m=3/\σ=[some (.ref nl),some (.ref p),some (.int (1+(([ww,hh,d].take k).flatMap optNums).length:Nat))]/\H'=a6 H p (.lst (([ww,hh,d].take k).map FE)),⟨3,0,rfl,rfl,rfl⟩,?_⟩
  rintro m σ H' ⟨k,hk,rfl,rfl⟩
  have hl:(([ww,hh,d].take k).map FE).length=k:=by rw [length_map,length_take];simp;omega
  refine ⟨_,rfl,p,_,rfl,.inl (cT.of aD),_,_,rfl,rfl,_,rfl,?_⟩
  rw [hl]
  refine aQ (fun z=>?_) fun z=>?_
  ·have hk3:k<3:=by have:=of_decide_eq_true z;omega
   obtain ⟨o,ho⟩:∃ o,[ww,hh,d][k]?=some o:=⟨_,getElem?_eq_getElem (by simpa using hk3)⟩
   have etk:[ww,hh,d].take (k+1)=[ww,hh,d].take k++[o]:=by rw [List.take_add_one,ho];rfl
   have hq:cT K (a6 H p (.lst (([ww,hh,d].take k).map FE))) nl ((5::[ww,hh,d].flatMap optNums).map V.int):=(s1 _).seq hN
   have hat:∀ (j:Nat) (v:Int),(optNums o)[j]?=some v->atI ((5::[ww,hh,d].flatMap optNums).map V.int) ((1+(([ww,hh,d].take k).flatMap optNums).length+j:Nat):Int)=some (.int v):=fun j v hv =>
    b6 (by rw [getElem?_map,Qi _ k o ho j v hv];rfl)
   have fin:∀ (v:V) (n:Nat),v=FE o->n=(optNums o).length->∃ m',m'<m/\∃ k',k'+m'=3/\([some (V.ref nl),some (V.ref p),some (V.int ((1+(([ww,hh,d].take k).flatMap optNums).length:Nat)+n))]:L2.St)=[some (.ref nl),some (.ref p),some (.int (1+(([ww,hh,d].take k').flatMap optNums).length:Nat))] ∧
    a6 (a6 H p (.lst (([ww,hh,d].take k).map FE))) p (.lst (([ww,hh,d].take k).map FE++[v]))=a6 H p (.lst (([ww,hh,d].take k').map FE)):=by
    rintro v n rfl rfl
    refine ⟨m - 1,by omega,k+1,by omega,?_,?_⟩
    ·rw [etk,List.flatMap_append,length_append]
     simp;omega
    ·rw [bU,etk,map_append];rfl
   refine ⟨fun σ' H'=>∃ m',m'<m/\∃ k,k+m'=3/\σ'=[some (.ref nl),some (.ref p),some (.int (1+(([ww,hh,d].take k).flatMap optNums).length:Nat))]/\H'=a6 H p (.lst (([ww,hh,d].take k).map FE)),fun _ _ h=>h,?_⟩
   cases o with
   | some v =>
    refine ⟨_,rfl,_,rfl,nl,_,_,_,rfl,rfl,hq,hat 0 1 rfl,rfl,_,rfl,aQ (fun z2=>?_) fun z2=>by simp at z2⟩
    refine ⟨_,rfl,.inl ⟨rfl,_,cT.of aD⟩,_,rfl,_,rfl,_,_,rfl,rfl,nl,_,_,_,rfl,rfl,hq,hat 1 v rfl,p,_,_,rfl,rfl,aD,?_,?_⟩
    ·rw [hl,sizeLine_eq];omega
    ·exact ⟨_,rfl,_,_,rfl,rfl,fin _ 2 rfl rfl⟩
   | none =>
    refine ⟨_,rfl,_,rfl,nl,_,_,_,rfl,rfl,hq,hat 0 0 rfl,rfl,_,rfl,aQ (fun z2=>by simp at z2) fun z2=>?_⟩
    refine ⟨_,rfl,.inl ⟨rfl,_,cT.of aD⟩,p,_,_,rfl,rfl,aD,?_,?_⟩
    ·rw [hl,sizeLine_eq];omega
    ·exact ⟨_,rfl,_,_,rfl,rfl,fin _ 1 rfl rfl⟩
  ·have hk3:k=3:=by have:=of_decide_eq_false z;omega
   subst hk3
   refine ⟨_,rfl,p,_,_,_,rfl,rfl,cT.of aD,b6 (j:=0) rfl,_,rfl,p,_,_,_,rfl,rfl,cT.of aD,b6 (j:=1) rfl,_,rfl,p,_,_,_,rfl,rfl,cT.of aD,b6 (j:=2) rfl,(sz 3),fun tp htp=>?_⟩
   exact q tp _ ((s1 _).trans (aK.new htp)) aD
def OT(x:Thing):List V:=[.int (wideOf x),.int (bI x),.int (c7 x)]
def Mq(t:bH)(K:Frag)(H:Hp)(x:Thing)(il:V):Prop:=∀ g how y,x=.leaders g how y->repeated y=true/\∃ la b,il=.ref la/\cT K H la [.ref b]/\bQ t H b y
inductive sU(t:bH)(K:Frag)(vs:List V)(H:Hp)(Q:VK)(E:XK):Prop
 | mk:∀ nl il x,vs=[.ref nl,il]->cT K H nl ((nums 9 x).map V.int)->fits 9 x=true->Mq t K H x il->(∀ tp H',aK H H'->H' tp=some (.tup (OT x))->Q (.ref tp) H')->sU t K vs H Q E
theorem JY{x:Thing}(f:fits 9 x=true):(nums 9 x)[0]?=some (kindOf x):=by cases x<;>rfl
theorem IG{g:Glue}{how:Nat}{y:Thing}(h:repeated y=true):wideOf (.leaders g how y)=wideOf y:=by cases y<;>first|rfl|cases h
theorem DR{t:bH}(T:b7 K mg t):bL P w K mg base hJ 2 t.i9.f t.i9.fd ["numbers","inner"] (sU t K):=by
 refine T.i9.F.ok tG (fun vs H Q E h=>?_) (fun cdv A outer s H vs Q E hr h=>?_)
 ·obtain ⟨nl,il,x,rfl,_⟩:=h
  rfl
 ·obtain ⟨nl,il,x,rfl,hN,hf,hI,q⟩:=h
  have hk:=pQ (i:=0) (JY hf)
  have q3:∀ (a b c:Int),a=wideOf x->b=bI x->c=c7 x->([V.int a,V.int b,V.int c].length<=sizeLine/\∀ p,H p=none->Q (.ref p) (a6 H p (.tup [V.int a,V.int b,V.int c]))):=by
   rintro a b c rfl rfl rfl
   exact ⟨by show 3<=sizeLine;decide,fun p hp=>q p _ (aK.new hp) aD⟩
  refine ⟨_,(aB (sv 2 tG.nd (ix (pv 0) aG)) (aB (a_ (tc bY (pv 2) (aW T.yF)) (aE (aM (pG (aA (bW iK (ix (pv 0) aG) (ix (pv 0) aG)) (aA (ix (pv 0) aG) (aA (ix (pv 0) aG) aF)))))) aR) (aB (a_ (tc bY (pv 2) (aW T.Ah)) (aE (aM (cf (G6 T) T.lK hr aV (aA (pv 0) aF)))) aR) (aB (a_ (tc bY (pv 2) (aW T.rA)) (aE (aM (pG (aA (fZ T.aP.cl T.oP thW (ix (pv 1) aG)) (aA (ix (pv 0) aG) (aA aG aF)))))) aR) (aB (a_ (PW.pt (kX (tc bY (pv 2) (aW T.Cq)) (jD (tc bY (pv 2) (aW T.Fn))))) (aE (aM (pG (aA aG (aA (ix (pv 0) aG) (aA aG aF)))))) aR) (aE (aM (pG (aA aG (aA aG (aA aG aF))))))))))),?_⟩
  refine ⟨_,rfl,nl,_,_,_,rfl,rfl,hN,hk,_,rfl,rfl,_,rfl,aQ (fun z=>?_) fun z6=>?_⟩
  ·rw [a8,decide_eq_true_eq] at z
   cases x with
   | box c ww hh d st sh l =>
    exact ⟨_,rfl,nl,_,_,_,rfl,rfl,hN,pQ (i:=2) rfl,_,rfl,nl,_,_,_,rfl,rfl,hN,pQ (i:=8) rfl,_,_,rfl,rfl,_,rfl,nl,_,_,_,rfl,rfl,hN,pQ (i:=3) rfl,_,rfl,nl,_,_,_,rfl,rfl,hN,pQ (i:=4) rfl,q3 _ _ _ rfl rfl rfl⟩
   | _=>cases z
  refine ⟨_,rfl,rfl,_,rfl,aQ (fun z=>?_) fun z5=>?_⟩
  ·rw [a8,decide_eq_true_eq] at z
   cases x with
   | rule ww hh d=>exact ⟨_,rfl,nl,ww,hh,d,rfl,hN,fun tp H' s1 e=>q tp H' s1 e⟩
   | _=>cases z
  refine ⟨_,rfl,rfl,_,rfl,aQ (fun z=>?_) fun z3=>?_⟩
  ·rw [a8,decide_eq_true_eq] at z
   cases x with
   | leaders g how y =>
    obtain ⟨hr',la,b,rfl,hL,hB⟩:=hI g how y rfl
    exact ⟨_,rfl,la,_,_,_,rfl,rfl,hL,b6 (j:=0) rfl,b,y,rfl,hB,_,rfl,nl,_,_,_,rfl,rfl,hN,pQ (i:=1) rfl,q3 _ _ _ (IG hr').symm rfl rfl⟩
   | _=>cases z
  refine ⟨_,rfl,rfl,_,rfl,aQ (fun z=>?_) fun z1=>⟨_,rfl,rfl,_,rfl,aQ (fun z=>?_) fun z2=>?_⟩⟩
  ·refine oB ?_
   rw [a8,decide_eq_true_eq] at z
   cases x with
   | kern k=>exact ⟨_,rfl,nl,_,_,_,rfl,rfl,hN,pQ (i:=1) rfl,q3 _ _ _ rfl rfl rfl⟩
   | _=>cases z
  ·rw [a8,decide_eq_true_eq] at z
   cases x with
   | glue g=>exact ⟨_,rfl,nl,_,_,_,rfl,rfl,hN,pQ (i:=1) rfl,q3 _ _ _ rfl rfl rfl⟩
   | _=>cases z
  ·rw [a8,decide_eq_false_iff_not] at z1 z2 z3 z5 z6
   cases x<;>first|exact q3 _ _ _ rfl rfl rfl|exact absurd rfl z1|exact absurd rfl z2|exact absurd rfl z3|exact absurd rfl z5|exact absurd rfl z6
inductive p_(t:bH)(K:Frag)(vs:List V)(H:Hp)(Q:VK)(E:XK):Prop
 | mk:∀ p dx nl il x,vs=[.ref p,.ref nl,il]->H p=some (.ins t.cB dx [])->H nl=some (.lst ((nums 9 x).map V.int))->fits 9 x=true->Mq t K H x il->(tH x=true->∃ (c:Nat) (g:Glue) (d k:Int) (l:List Thing) (la:Addr) (as:List Addr),x=.insert c g d k l/\il=.ref la/\la≠nl/\H la=some (.lst (as.map V.ref))/\aL t H as l)->(∀ H',(∀ b o,H b=some o->b≠p->b≠nl->(tH x=true->il≠.ref b)->H' b=some o)->(tH x=true->∃ (la:Addr) (as:List Addr),il=.ref la/\Fz H' la (as.map V.ref))->bQ t H' p x->Q .eX H')->p_ t K vs H Q E
theorem fS{t:bH}(T:b7 K mg t):bL P w K mg base hJ 3 t.aP.f t.aP.fd ["self","numbers","inner"] (p_ t K):=by
 refine T.aP.F.ok yD (fun vs H Q E h=>?_) (fun cdv A outer s H vs Q E hr h=>?_)
 ·obtain ⟨p,dx,nl,il,x,rfl,_⟩:=h
  rfl
 ·obtain ⟨p,dx,nl,il,x,rfl,hp,hN,hf,hI,hIn,q⟩:=h
  refine ⟨_,aB (sv 3 yD.nd (cf (DR T) T.i9 hr aV (aA (pv 1) (aA (pv 2) aF)))) (aB (bT T.aP.cl T.bS (pv 0) (ix (pv 1) aG)) (aB (bT T.aP.cl T.cI (pv 0) (pv 1)) (aB (bT T.aP.cl T.iP (pv 0) (pv 2)) (aB (bT T.aP.cl T.oP (pv 0) (KN Lw (pv 3) aG (fun _ _=>rfl))) (aB (bT T.aP.cl T.hW (pv 0) (KN Lw (pv 3) aG (fun _ _=>rfl))) (aE (IX (Qe (bT T.aP.cl T.iQ (pv 0) (KN Lw (pv 3) aG (fun _ _=>rfl))))))))))),?_⟩
  refine ⟨_,rfl,_,rfl,nl,il,x,rfl,cT.of hN,hf,hI,fun tp H1 s1 htp=>?_⟩
  have hp1:=s1 _ _ hp
  have hN1:=s1 _ _ hN
  have n1:nl≠p:=cX hN1 hp1 nofun
  have n2:tp≠p:=cX htp hp1 nofun
  refine ⟨_,rfl,nl,_,_,_,rfl,rfl,cT.of hN1,pQ (i:=0) (JY hf),_,rfl,p,dx,_,rfl,hp1,sm 0,?_⟩
  refine ⟨_,rfl,_,rfl,p,dx,_,rfl,aD,sm 1,?_⟩
  rw [bU]
  refine ⟨_,rfl,_,rfl,p,dx,_,rfl,aD,sm 2,?_⟩
  rw [bU]
  have en:∀ {o1:HO} {b:Addr} {o:HO},b≠p->H1 b=some o->a6 H1 p o1 b=some o:=fun hb e=>by rw [aJ hb];exact e
  refine ⟨_,rfl,tp,_,_,_,rfl,rfl,SqT.of (en n2 htp),b6 (j:=0) rfl,_,rfl,p,dx,_,rfl,aD,sm 3,?_⟩
  rw [bU]
  refine ⟨_,rfl,tp,_,_,_,rfl,rfl,SqT.of (en n2 htp),b6 (j:=1) rfl,_,rfl,p,dx,_,rfl,aD,sm 4,?_⟩
  rw [bU]
  refine ⟨nl,_,en n1 hN1,trivial,fun od=>?_⟩
  have last:∀ H2:Hp,H2 p=some (.ins t.cB dx (mU "height" (V.int (bI x)) (mU "width" (V.int (wideOf x)) (mU "inner" il (mU "numbers" (.ref nl) (mU "kind" (.int (kindOf x)) []))))))->H2 tp=some (.tup (OT x))->Fz H2 nl ((nums 9 x).map V.int) →
   (∀ b o,H b=some o->b≠p->b≠nl->(tH x=true->il≠.ref b)->H2 b=some o)->(tH x=true->∃ (c:Nat) (g:Glue) (d k:Int) (l:List Thing) (la:Addr) (as:List Addr),x=.insert c g d k l/\il=.ref la/\la≠p/\Fz H2 la (as.map V.ref)/\aL t H2 as l) →
   sAt t.cB "depth" (IZ 0) (tOp (Rx K) (IZ 3) (tC (V.int 2))) { nx:=fun _ H'=>Q .eX H',rt:=Q } [some (.ref p),some (.ref nl),some il,some (.ref tp)] H2:=by
   intro H2 h1 h2 h3 h4 h5
   refine ⟨_,rfl,tp,_,_,_,rfl,rfl,SqT.of h2,b6 (j:=2) rfl,_,rfl,p,dx,_,rfl,h1,sm 5,?_⟩
   have n3:nl≠p:=n1
   have kp:∀ {b:Addr} {o:HO},b≠p->H2 b=some o->a6 H2 p (.ins t.cB dx (Cg x (.ref nl) il)) b=some o:=fun hb e=>by rw [aJ hb];exact e
   have fz:∀ {b:Addr} {xs:List V},Fz H2 b xs->b≠p->Fz (a6 H2 p (.ins t.cB dx (Cg x (.ref nl) il))) b xs:=fun ⟨ob,e⟩ hb=>⟨ob,kp hb e⟩
   show Q .eX (a6 H2 p (.ins t.cB dx (Cg x (.ref nl) il)))
   refine q _ (fun b o e b1 b2 b3=>kp b1 (h4 b o e b1 b2 b3)) (fun hi=>?_) ?_
   ·obtain ⟨c,g,d,k,l,la,as,_,e2,e3,e4,_⟩:=h5 hi
    exact ⟨la,as,e2,fz e4 e3⟩
   ·by_cases hi:tH x=true
    ·obtain ⟨c,g,d,k,l,la,as,rfl,rfl,e3,e4,e5⟩:=h5 hi
     have fx:iV t H2 (a6 H2 p (.ins t.cB dx (Cg (.insert c g d k l) (.ref nl) (.ref la)))):=iV.chg h1 (MI (by show 5≠6;decide) T.vV T.nI)
     exact .ins aD hf (fz h3 n3) (fz e4 e3) e5.len fun i b y h6 h7=>(e5.at_ i b y h6 h7).fix fx
    ·exact .plain (by simpa using hi) aD hf (fz h3 n3)
  have hA:∀ {o1:HO},aK H1 (a6 (a6 H1 p o1) nl (.mH od (.lst ((nums 9 x).map V.int))))->True:=fun _=>trivial
  have g1:∀ {b:Addr} {o o1:HO},b≠p->b≠nl->H1 b=some o->a6 (a6 H1 p o1) nl (.mH od (.lst ((nums 9 x).map V.int))) b=some o:=fun h1 h2 e=>by rw [aJ h2,aJ h1];exact e
  have ntl:tp≠nl:=cX htp hN1 nofun
  by_cases hi:tH x=true
  ·obtain ⟨c,g,d,k,l,la,as,rfl,rfl,n3,hla,hth⟩:=hIn hi
   have hla1:=s1 _ _ hla
   have n4:la≠p:=cX hla1 hp1 nofun
   have n5:tp≠la:=cX htp hla1 nofun
   refine .inl ⟨la,_,g1 n4 n3 hla1,trivial,fun od2=>last _ ?_ ?_ ?_ ?_ fun _=>⟨c,g,d,k,l,la,as,rfl,rfl,n4,⟨od2,aD⟩,?_⟩⟩
   ·rw [aJ (Ne.symm n4),aJ (Ne.symm n1),aD]
   ·rw [aJ n5];exact g1 n2 ntl htp
   ·exact ⟨od,by rw [aJ (Ne.symm n3)];exact aD⟩
   ·intro b o e b1 b2 b3
    rw [aJ (fun z=>b3 hi (by rw [z]))]
    exact g1 b1 b2 (s1 _ _ e)
   ·have f1:iV t H H1:=s1.fix
    refine hth.fix (f1.trans ?_)
    have f2:∀ o1,iV t H1 (a6 H1 p o1):=fun o1=>iV.chg hp1 (MI (by show 0≠6;decide) T.vV T.nI)
    refine iV.trans ?_ (iV.chg (o:=.lst (as.map V.ref)) (g1 n4 n3 hla1) kY)
    refine iV.trans ?_ (iV.chg (o:=.lst ((nums 9 (.insert c g d k l)).map V.int)) (by rw [aJ n1];exact hN1) kY)
    exact f2 _
  ·refine .inr (last _ ?_ ?_ ⟨od,aD⟩ (fun b o e b1 b2 _=>g1 b1 b2 (s1 _ _ e)) fun h=>absurd h hi)
   ·rw [aJ (Ne.symm n1),aD]
   ·exact g1 n2 ntl htp
inductive yS(t:bH)(K:Frag)(vs:List V)(H:Hp)(Q:VK)(E:XK):Prop
 | mk:∀ gl g b x,vs=[.ref gl,.ref b]->Rd H gl (.lst (eU g))->bQ t H b x->cV x=true->(∀ p H',aK H H'->H p=none->bQ t H' p (above g x)->Q (.ref p) H')->yS t K vs H Q E
theorem Im{x:Thing}(h:cV x=true):((solid x).map (·.1)).getD 0=bI x:=by cases x<;>first|rfl|cases h
theorem wL{H H1 H2:Hp}{p dx nl:Addr}{C:Addr}(s1:aK H H1)(h1:H nl=none)(np:H1 p=none)(nd:H1 dx=none)(k:∀ b o,a6 (a6 H1 dx (.own p)) p (.ins C dx []) b=some o->b≠p->b≠nl->H2 b=some o):aK H H2:=by
 intro b o e
 have e1:=s1 b o e
 have n1:b≠p:=aH e1 np
 have n2:b≠dx:=aH e1 nd
 exact k b o (by rw [aJ n1,aJ n2];exact e1) n1 (aH e h1)
theorem xS{t:bH}(T:b7 K mg t):bL P w K mg base hJ 5 t.jS.f t.jS.fd ["glue","solid"] (yS t K):=by
 refine T.jS.F.ok zL (fun vs H Q E h=>?_) (fun cdv A outer s H vs Q E hr h=>?_)
 ·obtain ⟨gl,g,b,x,rfl,_⟩:=h
  rfl
 ·obtain ⟨gl,g,b,x,rfl,hG,hT,hs,q⟩:=h
  refine ⟨_,(aB (sv 2 zL.nd (jI (Hf rfl) (by rfl) T.QL Ow (aA aG (aA (bW jW (ix (pv 0) aG) (fZ T.aP.cl T.hW thH (pv 1))) aF)))) (aE (aM (cn (fS T) T.aP hr (aA (bW eN (bR (aA (aW T.Fn) (aA (pv 2) aF))) (eF gB (pv 0) (dM aG) lS)) (aA (bR aF) aF)))))),?_⟩
  have hq:cT K H gl (eU g):=.inl hG
  refine ⟨_,rfl,gl,_,_,_,rfl,rfl,hq,b6 (j:=0) (v:=.int g.size) rfl,_,rfl,b,x,rfl,hT,_,_,rfl,rfl,_,_,rfl,?_⟩
  refine ⟨_,rfl,(sz 2),fun l1 n1=>⟨_,rfl,_,rfl,gl,_,rfl,(aK.new n1).seq hq,fun l2 n2=>⟨l1,l2,_,_,rfl,rfl,.inl (aK.new n2 _ _ aD),.inl aD,?_,fun l3 n3=>⟨Nat.zero_le _,fun l4 n4=>?_⟩⟩⟩⟩
  ·show 2+(jB (eU g) (some 1) none).length<=sizeLine
   have:=vP (eU g) (some 1) none
   have:(eU g).length=5:=rfl
   rw [sizeLine_eq];omega
  ·intro p dx np nd ne
   have hx:((2:Int)::(if g.size - bI x > 0 then g.size - bI x else 0)::[g.stretch,(g.so:Int),g.shrink,(g.sho:Int)])=nums 9 (above g x):=by
    have:max 0 (g.size - bI x)=if g.size - bI x > 0 then g.size - bI x else 0:=by
     by_cases h:g.size - bI x > 0
     ·rw [if_pos h];omega
     ·rw [if_neg h];omega
    simp only [above,Im hs,nums,glueNums,this]
   have hv:[V.int 2,V.int (if g.size - bI x > 0 then g.size - bI x else 0)]++jB (eU g) (some 1) none=(nums 9 (above g x)).map V.int:=by
    rw [<-hx];rfl
   have s3:aK H (a6 (a6 (a6 (a6 H l1 (.lst [.int 2,.int (if g.size - bI x > 0 then g.size - bI x else 0)])) l2 (.lst (jB (eU g) (some 1) none))) l3 (.lst ([V.int 2,V.int (if g.size - bI x > 0 then g.size - bI x else 0)]++jB (eU g) (some 1) none))) l4 (.lst [])) :=
    (((aK.new n1).trans (aK.new n2)).trans (aK.new n3)).trans (aK.new n4)
   have n3':H l3=none:=((aK.new n1).trans (aK.new n2)).free n3
   have e3:=aK.new (o:=.lst []) n4 _ _ (aD (H:=a6 (a6 H l1 (.lst [.int 2,.int (if g.size - bI x > 0 then g.size - bI x else 0)])) l2 (.lst (jB (eU g) (some 1) none))) (a:=l3) (o:=.lst ([V.int 2,V.int (if g.size - bI x > 0 then g.size - bI x else 0)]++jB (eU g) (some 1) none)))
   have m1:l3≠p:=aH e3 np
   have m2:l3≠dx:=aH e3 nd
   refine ⟨p,dx,l3,.ref l4,above g x,rfl,aD,?_,rfl,(fun _ _ _ e=>nomatch e),(fun e=>nomatch e),fun H' kp _ hA=>⟨rfl,q p H' ?_ (s3.free np) hA⟩⟩
   ·rw [aJ m1,aJ m2,<-hv];exact e3
   ·exact wL s3 n3' np nd fun b o e h1 h2=>kp b o e h1 h2 (fun e=>nomatch e)
inductive tJ(t:bH)(K:Frag)(vs:List V)(H:Hp)(Q:VK)(E:XK):Prop
 | mk:∀ k:Int,vs=[.int k]->(∀ p H',aK H H'->H p=none->bQ t H' p (.penalty k)->Q (.ref p) H')->tJ t K vs H Q E
theorem tL{t:bH}(T:b7 K mg t):bL P w K mg base hJ 5 t.gX.f t.gX.fd ["penalty"] (tJ t K):=by
 refine T.gX.F.ok DV (fun vs H Q E h=>?_) (fun cdv A outer s H vs Q E hr h=>?_)
 ·obtain ⟨k,rfl,_⟩:=h
  rfl
 ·obtain ⟨k,rfl,q⟩:=h
  refine ⟨_,(aE (aM (cn (fS T) T.aP hr (aA (bR (aA (aW T.lC) (aA (pv 0) aF))) (aA (bR aF) aF))))),?_⟩
  refine ⟨_,rfl,(sz 2),fun l1 n1=>⟨Nat.zero_le _,fun l2 n2=>?_⟩⟩
  intro p dx np nd ne
  have s1:aK H (a6 (a6 H l1 (.lst [.int 4,.int k])) l2 (.lst [])):=(aK.new n1).trans (aK.new n2)
  have e1:a6 (a6 H l1 (.lst [.int 4,.int k])) l2 (.lst []) l1=some (.lst [.int 4,.int k]):=aK.new n2 _ _ aD
  have m1:l1≠p:=aH e1 np
  have m2:l1≠dx:=aH e1 nd
  refine ⟨p,dx,l1,.ref l2,.penalty k,rfl,aD,?_,rfl,(fun _ _ _ e=>nomatch e),(fun e=>nomatch e),fun H' kp _ hA=>⟨rfl,q p H' ?_ (s1.free np) hA⟩⟩
  ·rw [aJ m1,aJ m2];exact e1
  ·exact wL s1 n1 np nd fun b o e h1 h2=>kp b o e h1 h2 (fun e=>nomatch e)
def Hn:List Thing:=[.glue ⟨0,65536,1,0,0⟩,.penalty (-10000)]
inductive y0(t:bH)(K:Frag)(vs:List V)(H:Hp)(Q:VK)(E:XK):Prop
 | mk:vs=[]->(∀ la as H',aK H H'->H la=none->H' la=some (.lst (as.map V.ref))->aL t H' as Hn->Q (.ref la) H')->y0 t K vs H Q E
theorem GZ{t:bH}(T:b7 K mg t):bL P w K mg base hJ 6 t.lH.f t.lH.fd [] (y0 t K):=by
 refine T.lH.F.ok Gs (fun vs H Q E h=>?_) (fun cdv A outer s H vs Q E hr h=>?_)
 ·obtain ⟨rfl,_⟩:=h
  rfl
 ·obtain ⟨rfl,q⟩:=h
  refine ⟨_,(aE (aM (bR (aA (cn (fS T) T.aP hr (aA (bR (aA (aW T.Fn) (aA aG (aA (aW T.Gm) (aA aG (aA aG (aA aG aF))))))) (aA (bR aF) aF))) (aA (cf (tL T) T.gX hr aV (aA (o7 jV (aW T.lF)) aF)) aF))))),?_⟩
  refine ⟨(sz 6),fun l1 n1=>⟨Nat.zero_le _,fun l2 n2=>?_⟩⟩
  intro p dx np nd ne
  have s1:aK H (a6 (a6 H l1 (.lst [.int 2,.int 0,.int 65536,.int 1,.int 0,.int 0])) l2 (.lst [])):=(aK.new n1).trans (aK.new n2)
  have e1:a6 (a6 H l1 (.lst [.int 2,.int 0,.int 65536,.int 1,.int 0,.int 0])) l2 (.lst []) l1=some (.lst [.int 2,.int 0,.int 65536,.int 1,.int 0,.int 0]):=aK.new n2 _ _ aD
  have m1:l1≠p:=aH e1 np
  have m2:l1≠dx:=aH e1 nd
  refine ⟨p,dx,l1,.ref l2,.glue ⟨0,65536,1,0,0⟩,rfl,aD,?_,rfl,(fun _ _ _ e=>nomatch e),(fun e=>nomatch e),fun H1 kp _ hA=>⟨rfl,?_⟩⟩
  ·rw [aJ m1,aJ m2];exact e1
  have s2:aK H H1:=wL s1 n1 np nd fun b o e h1 h2=>kp b o e h1 h2 (fun e=>nomatch e)
  refine ⟨_,rfl,-10000,rfl,fun p2 H2 s3 n3 hB=>⟨(sz 2),fun la nla=>?_⟩⟩
  have s4:aK H2 (a6 H2 la (.lst [.ref p,.ref p2])):=aK.new nla
  refine q la [p,p2] _ ((s2.trans s3).trans s4) ((s2.trans s3).free nla) aD ?_
  exact (aL.one ((hA.fix s3.fix).fix s4.fix)).append (aL.one (hB.fix s4.fix))
inductive p4(t:bH)(K:Frag)(vs:List V)(H:Hp)(Q:VK)(E:XK):Prop
 | mk:∀ (a la:Addr) (as:List Addr) (c:Nat) (g:Glue) (d k:Int) (l0 l:List Thing),vs=[.ref a,.ref la]->bQ t H a (.insert c g d k l0)->H la=some (.lst (as.map V.ref))->aL t H as l->l.all (fits 8)=true->gA l<16000000->(∀ p H',(∀ b o,H b=some o->b≠la->H' b=some o)->H p=none->(∃ as':List Addr,Fz H' la (as'.map V.ref))->bQ t H' p (.insert c g d k l)->Q (.ref p) H')->p4 t K vs H Q E
theorem Ob{c:Nat}{g:Glue}{d k:Int}{l0 l:List Thing}(h:l.all (fits 8)=true):jB ((nums 9 (.insert c g d k l0)).map V.int) none (some 9)++(((l.length:Int)::l.flatMap (nums 9)).map V.int)=(nums 9 (.insert c g d k l)).map V.int:=by
 have e:jB ((nums 9 (.insert c g d k l0)).map V.int) none (some 9)=((nums 9 (.insert c g d k l0)).map V.int).take 9:=by
  unfold jB
  rw [HT.By,show (9:Int)=((9:Nat):Int) from rfl,HT.pZ,List.drop_zero,Nat.sub_zero,Nat.min_eq_left (by simp [nums,glueNums])]
 rw [e]
 have e2:listNums (nums 8) l=listNums (nums 9) l:=gE h fun t ht=>(gJ 8 t ht).2.symm
 have e3:nums 9 (.insert c g d k l)=[10,(c:Int)]++(glueNums g++([d,k]++listNums (nums 8) l)):=rfl
 have e4:nums 9 (.insert c g d k l0)=[10,(c:Int)]++(glueNums g++([d,k]++listNums (nums 8) l0)):=rfl
 rw [e3,e4,e2]
 simp [glueNums,listNums]
theorem AV{t:bH}(T:b7 K mg t):bL P w K mg base hJ 5 t.gN.f t.gN.fd ["insertion","things"] (p4 t K):=by
 refine T.gN.F.ok BC (fun vs H Q E h=>?_) (fun cdv A outer s H vs Q E hr h=>?_)
 ·obtain ⟨a,la,as,c,g,d,k,l0,l,rfl,_⟩:=h
  rfl
 ·obtain ⟨a,la,as,c,g,d,k,l0,l,rfl,hA,hL,hT,hf,hz,q⟩:=h
  refine ⟨_,(aE (aM (cn (fS T) T.aP hr (aA (bW eN (eF gB (r9 T.aP.cl T.cI (pv 0)) lS (dM aG)) (cf (eA T) T.cM hr aV (aA (pv 1) aF))) (aA (pv 1) aF))))),?_⟩
  refine ⟨_,rfl,a,_,rfl,hA,fun nl hn=>⟨_,rfl,nl,_,rfl,hn.sq,fun l1 n1=>⟨_,rfl,la,as,l,rfl,(aK.new n1).seq (cT.of hL),hT.fix (aK.new n1).fix,hz,fun l2 n2=>⟨l1,l2,_,_,rfl,rfl,.inl (aK.new n2 _ _ aD),.inl aD,?_,fun l3 n3=>⟨_,rfl,?_⟩⟩⟩⟩⟩
  ·have:=vP ((nums 9 (.insert c g d k l0)).map V.int) none (some 9)
   have h9:(jB ((nums 9 (.insert c g d k l0)).map V.int) none (some 9)).length<=9:=by
    unfold jB
    rw [HT.By,show (9:Int)=((9:Nat):Int) from rfl,HT.pZ,length_take]
    omega
   have:(((l.length:Int)::l.flatMap (nums 9)).map V.int).length=gA l+1:=by rw [length_map,length_cons];rfl
   rw [this,sizeLine_eq];omega
  ·intro p dx np nd ne
   rw [Ob hf] at np nd ⊢
   have s3:=((aK.new (o:=.lst (jB ((nums 9 (.insert c g d k l0)).map V.int) none (some 9))) n1).trans (aK.new (o:=.lst (((l.length:Int)::l.flatMap (nums 9)).map V.int)) n2)).trans (aK.new (o:=.lst ((nums 9 (.insert c g d k l)).map V.int)) n3)
   have n3':H l3=none:=((aK.new n1).trans (aK.new n2)).free n3
   have e3:=aD (H:=a6 (a6 H l1 (.lst (jB ((nums 9 (.insert c g d k l0)).map V.int) none (some 9)))) l2 (.lst (((l.length:Int)::l.flatMap (nums 9)).map V.int))) (a:=l3) (o:=.lst ((nums 9 (.insert c g d k l)).map V.int))
   have m1:l3≠p:=aH e3 np
   have m2:l3≠dx:=aH e3 nd
   have hla:=s3 _ _ hL
   have m3:la≠p:=aH hla np
   have m4:la≠dx:=aH hla nd
   have m5:la≠l3:=aH hL n3'
   have sd:aK (a6 (a6 (a6 H l1 (.lst (jB ((nums 9 (.insert c g d k l0)).map V.int) none (some 9)))) l2 (.lst (((l.length:Int)::l.flatMap (nums 9)).map V.int))) l3 (.lst ((nums 9 (.insert c g d k l)).map V.int))) _:=(aK.new (o:=.own p) nd).trans (aK.new (o:=.ins t.cB dx []) (by rw [aJ (Ne.symm ne)];exact np))
   refine ⟨p,dx,l3,.ref la,.insert c g d k l,rfl,aD,sd _ _ e3,?_,(fun _ _ _ e=>nomatch e),fun _=>⟨c,g,d,k,l,la,as,rfl,rfl,m5,sd _ _ hla,(hT.fix s3.fix).fix sd.fix⟩,fun H' kp hz' hA'=>⟨rfl,q p H' (fun b o e hb=>?_) (s3.free np) ?_ hA'⟩⟩
   ·exact hf
   ·have e1:=s3 _ _ e
    exact kp b o (sd _ _ e1) (aH e1 np) (aH e n3') (fun _ z=>hb (V.ref.inj z).symm)
   ·obtain ⟨la',as',e1,e2⟩:=hz' rfl
    cases e1
    exact ⟨as',e2⟩
end
section
variable {X:Cx}
def Sn(K:Frag):V->V->Hp->VK->Prop:=fun o i H Q=>∃ (p:Addr) (xs:List V) (j:Nat) (v:V),o=.ref p/\i=.int j/\cT K H p xs/\xs[j]?=some v/\Q v H
theorem JN:Sf X (Sn X.K):=by
 intro pins s σ H o i ov iv Q I ro ri h
 obtain ⟨p,xs,j,v,rfl,rfl,hq,he,q⟩:=h
 cases ro
 obtain ⟨t,rfl⟩:=ri
 obtain ⟨its,r,pl,hz⟩:=I.list hq
 obtain ⟨u,eu,ru⟩:=r.get he
 have hj:j<xs.length:=(List.getElem?_eq_some_iff.mp he).1
 refine wpAny_getItem_list pl.isList (by omega) ?_ (by simpa using eu) ⟨v,H,I,ru,q⟩
 rw [sizeLine_eq] at hz
 omega
end
section
variable {P:Program}{w:World}{K:Frag}{mg:Str->Option Value}{base:Heap}
def bG(M:List Addr)(H H':Hp):Prop:=∀ b o,H b=some o->b∉M->H' b=some o
theorem bG.refl{M:List Addr}{H:Hp}:bG M H H:=fun _ _ h _=>h
theorem bG.trans{M:List Addr}{H H1 H2:Hp}(x:bG M H H1)(y:bG M H1 H2):bG M H H2:=fun b o h n=>y b o (x b o h n) n
theorem bG.mono{M N:List Addr}{H H1:Hp}(x:bG M H H1)(h:∀ b∈M,b∈N):bG N H H1:=fun b o e n=>x b o e fun m=>n (h b m)
theorem _root_.L2.aK.fC{M:List Addr}{H H1:Hp}(x:aK H H1):bG M H H1:=fun b o e _=>x b o e
theorem bG.chg{M:List Addr}{H:Hp}{a:Addr}{o:HO}(h:a∈M):bG M H (a6 H a o):=fun b u e n=>by rw [aJ (fun z=>n (by rw [z];exact h))];exact e
theorem bG.fix{t:bH}{M:List Addr}{H H1:Hp}(x:bG M H H1)(h:∀ b∈M,∀ o,H b=some o->¬ oU t o):iV t H H1:=fun b o c e=>x b o e fun m=>h b m o e c
def MZ(gA wid last:Int)(st sh:Addr):List (Str×V):=[("total",.int gA),("widest",.int wid),("last_depth",.int last),("stretches",.ref st),("shrinks",.ref sh)]
structure kN(t:bH)(H:Hp)(a st sh:Addr)(l:List Thing):Prop where
 obj:∃ dx,H a=some (.ins t.fX dx (MZ (columnSum l) (columnWidth l) (lastDepth l) st sh))
 str:H st=some (.lst ((eJ (stretchOf l)).map V.int))
 shr:H sh=some (.lst ((eJ (shrinkOf l)).map V.int))
 ne:st≠sh
theorem b7.Qq{t:bH}(T:b7 K mg t){dx:Addr}{fs:List (Str×V)}:¬ oU t (.ins t.fX dx fs):=CJ (Ne.symm T.GH) T.GW T.Ac
theorem kN.keep{t:bH}{H H':Hp}{a st sh:Addr}{l:List Thing}(S:kN t H a st sh l)(k:∀ b∈[a,st,sh],∀ o,H b=some o->H' b=some o):kN t H' a st sh l:=by
 obtain ⟨dx,e⟩:=S.obj
 exact ⟨⟨dx,k a (by simp) _ e⟩,k st (by simp) _ S.str,k sh (by simp) _ S.shr,S.ne⟩
inductive BF(t:bH)(K:Frag)(vs:List V)(H:Hp)(Q:VK)(E:XK):Prop
 | mk:∀ p dx,vs=[.ref p]->H p=some (.ins t.fX dx [])->(∀ st sh H',bG [p] H H'->H st=none->H sh=none->kN t H' p st sh []->Q .eX H')->BF t K vs H Q E
theorem Bi{t:bH}(T:b7 K mg t):bL P w K mg base hJ 1 t.bE.f t.bE.fd ["self"] (BF t K):=by
 refine T.bE.F.ok Ir (fun vs H Q E h=>?_) (fun cdv A outer s H vs Q E hr h=>?_)
 ·obtain ⟨p,dx,rfl,_⟩:=h
  rfl
 ·obtain ⟨p,dx,rfl,hp,q⟩:=h
  refine ⟨_,(aB (bT T.bE.cl T.jK (pv 0) aG) (aB (bT T.bE.cl T.kO (pv 0) aG) (aB (bT T.bE.cl T.dR (pv 0) aG) (aB (bT T.bE.cl T.iD (pv 0) (bR (aA aG (aA aG (aA aG (aA aG aF)))))) (aE (bT T.bE.cl T.jN (pv 0) (bR (aA aG (aA aG (aA aG (aA aG aF))))))))))),?_⟩
  refine ⟨_,rfl,p,dx,_,rfl,hp,sm 0,?_⟩
  refine ⟨_,rfl,p,dx,_,rfl,aD,sm 1,?_⟩
  rw [bU]
  refine ⟨_,rfl,p,dx,_,rfl,aD,sm 2,?_⟩
  rw [bU]
  refine ⟨(sz 4),fun st nst=>⟨_,rfl,p,dx,_,rfl,aK.new nst _ _ aD,sm 3,⟨(sz 4),fun sh DH=>⟨_,rfl,p,dx,_,rfl,aK.new DH _ _ aD,sm 4,?_⟩⟩⟩⟩
  have m1:st≠p:=fun z=>by rw [z,aD] at nst;cases nst
  have m2:sh≠p:=fun z=>by rw [z,aD] at DH;cases DH
  have m3:st≠sh:=fun z=>by rw [z] at m1;rw [<-z,aJ (by rw [z];exact m2),aD] at DH;cases DH
  refine q st sh _ (fun b o e hb=>?_) ?_ ?_ ⟨⟨dx,aD⟩,?_,?_,m3⟩
  ·have hb:b≠p:=by simpa using hb
   have e1:a6 H p (.ins t.fX dx (mU "last_depth" (V.int 0) (mU "widest" (V.int 0) (mU "total" (V.int 0) [])))) b=some o:=by rw [aJ hb];exact e
   have hb2:b≠st:=aH e1 nst
   have hb3:b≠sh:=aH (o:=o) (by rw [aJ hb,aJ hb2,aJ hb];exact e) DH
   rw [aJ hb,aJ hb3,aJ hb,aJ hb2,aJ hb];exact e
  ·rw [aJ m1] at nst;exact nst
  ·rw [aJ m2,aJ (Ne.symm m3),aJ m2] at DH;exact DH
  ·rw [aJ m1,aJ m3,aJ m1,aD];rfl
  ·rw [aJ m2,aD];rfl
def pP(xs:List Int)(i:Nat)(d:Int):List Int:=xs.set i (xs.getD i 0+d)
inductive mK(t:bH)(K:Frag)(vs:List V)(H:Hp)(Q:VK)(E:XK):Prop
 | mk:∀ a dx tt wi la st sh xs ys gl g,vs=[.ref a,.ref gl]->H a=some (.ins t.fX dx (MZ tt wi la st sh))->H st=some (.lst (xs.map V.int))->H sh=some (.lst (ys.map V.int))->st≠sh->xs.length=4->ys.length=4->Rd H gl (.lst (eU g))->gl≠st->gl≠sh->g.so<=3->g.sho<=3->Q .eX (a6 (a6 H st (.lst ((pP xs g.so g.stretch).map V.int))) sh (.lst ((pP ys g.sho g.shrink).map V.int)))->mK t K vs H Q E
theorem GL{xs:List Int}{i:Nat}(h:i<xs.length):(xs.map V.int)[i]?=some (.int (xs.getD i 0)):=by
 rw [getElem?_map,getElem?_eq_getElem h,getD_eq_getElem?_getD,getElem?_eq_getElem h];rfl
theorem Ro{xs:List Int}{i:Nat}{d:Int}:(xs.map V.int).set i (.int (xs.getD i 0+d))=(pP xs i d).map V.int:=by
 unfold pP;rw [List.map_set]
theorem Jw{n j:Nat}(h:j<n):ixN n (j:Int)=some j:=by
 unfold ixN;rw [if_pos (by omega),if_pos (by omega)];simp
theorem uO{t:bH}(T:b7 K mg t):bL P w K mg base hJ 1 t.dD.f t.dD.fd ["self","glue"] (mK t K):=by
 refine T.dD.F.ok uS (fun vs H Q E h=>?_) (fun cdv A outer s H vs Q E hr h=>?_)
 ·obtain ⟨a,dx,tt,wi,la,st,sh,xs,ys,gl,g,rfl,_⟩:=h
  rfl
 ·obtain ⟨a,dx,tt,wi,la,st,sh,xs,ys,gl,g,rfl,hA,hst,hsh,ne,h4,h5,hG,n1,n2,hso,hsho,q⟩:=h
  refine ⟨_,(aB (Ja (aZ T.bE.cl T.iD (pv 0)) (ix (pv 1) aG) JN (ix (pv 1) aG) CF ED) (aE (Ja (aZ T.bE.cl T.jN (pv 0)) (ix (pv 1) aG) JN (ix (pv 1) aG) CF ED))),?_⟩
  have hq:cT K H gl (eU g):=.inl hG
  have na:a≠st:=cX hA hst nofun
  have nb:a≠sh:=cX hA hsh nofun
  refine ⟨_,rfl,a,dx,_,_,rfl,hA,rfl,_,rfl,gl,_,_,_,rfl,rfl,hq,b6 (j:=2) (v:=.int (g.so:Int)) rfl,st,_,g.so,_,rfl,rfl,cT.of hst,GL (by omega),_,rfl,gl,_,_,_,rfl,rfl,hq,b6 (j:=1) (v:=.int g.stretch) rfl,_,_,rfl,rfl,st,_,_,_,rfl,rfl,hst,Jw (by rw [length_map];omega),?_⟩
  rw [Ro]
  have hq':cT K (a6 H st (.lst ((pP xs g.so g.stretch).map V.int))) gl (eU g):=by
   refine .inl (hG.imp (fun e=>by rw [aJ n1];exact e) fun ⟨ob,e⟩=>⟨ob,by rw [aJ n1];exact e⟩)
  have hA':a6 H st (.lst ((pP xs g.so g.stretch).map V.int)) a=some (.ins t.fX dx (MZ tt wi la st sh)):=by rw [aJ na];exact hA
  have hsh':a6 H st (.lst ((pP xs g.so g.stretch).map V.int)) sh=some (.lst (ys.map V.int)):=by rw [aJ (Ne.symm ne)];exact hsh
  refine ⟨_,rfl,a,dx,_,_,rfl,hA',rfl,_,rfl,gl,_,_,_,rfl,rfl,hq',b6 (j:=4) (v:=.int (g.sho:Int)) rfl,sh,_,g.sho,_,rfl,rfl,cT.of hsh',GL (by omega),_,rfl,gl,_,_,_,rfl,rfl,hq',b6 (j:=3) (v:=.int g.shrink) rfl,_,_,rfl,rfl,sh,_,_,_,rfl,rfl,hsh',Jw (by rw [length_map];omega),?_⟩
  rw [Ro]
  exact q
def Hi(x:Thing):Prop:=∀ g,glueOf x=some g->g.so<=3/\g.sho<=3
theorem Aq{x:Thing}(h:OW x):Hi x:=fun g e=>⟨(h.glu g e).2.2.2.1,(h.glu g e).2.2.2.2⟩
inductive oF(t:bH)(K:Frag)(vs:List V)(H:Hp)(Q:VK)(E:XK):Prop
 | mk:∀ a st sh l b x,vs=[.ref a,.ref b]->kN t H a st sh l->bQ t H b x->Hi x->(∀ H',bG [a,st,sh] H H'->kN t H' a st sh (l++[x])->Q .eX H')->oF t K vs H Q E
theorem JO(l:List Thing)(x:Thing)(g:Glue)(h:glueOf x=some g)(ho:g.so<=3):eJ (stretchOf (l++[x]))=pP (eJ (stretchOf l)) g.so g.stretch :=
 K1 _ _ g.so g.stretch ho fun i=>by rw [uX,h]
theorem Kw(l:List Thing)(x:Thing)(g:Glue)(h:glueOf x=some g)(ho:g.sho<=3):eJ (shrinkOf (l++[x]))=pP (eJ (shrinkOf l)) g.sho g.shrink :=
 K1 _ _ g.sho g.shrink ho fun i=>by rw [xZ,h]
theorem Qx(l:List Thing)(x:Thing)(h:glueOf x=none):eJ (stretchOf (l++[x]))=eJ (stretchOf l)/\eJ (shrinkOf (l++[x]))=eJ (shrinkOf l):=by
 simp [eJ,uX,xZ,h]
theorem Li{x:Thing}(h:isGlue x=false):glueOf x=none:=by cases x<;>first|rfl|cases h
theorem CZ{x:Thing}(h:isGlue x=true):∃ g,glueOf x=some g:=by cases x<;>first|exact ⟨_,rfl⟩|cases h
theorem SR(i j:Int):(if j > i then j else i)=max i j:=by
 by_cases h:j > i
 ·rw [if_pos h];omega
 ·rw [if_neg h];omega
theorem Ql(i j:Int):(if j<i then j else i)=min i j:=by
 by_cases h:j<i
 ·rw [if_pos h];omega
 ·rw [if_neg h];omega
theorem Og{x:Thing}(a:cV x=false)(b:¬ kindOf x=1)(c:isGlue x=false):¬ Oc x=true:=by cases x<;>simp_all [cV,kindOf,isGlue,Oc,solid,isKern]
theorem oQ{t:bH}(T:b7 K mg t):bL P w K mg base hJ 2 t.c_.f t.c_.fd ["self","thing"] (oF t K):=by
 refine T.c_.F.ok Af (fun vs H Q E h=>?_) (fun cdv A outer s H vs Q E hr h=>?_)
 ·obtain ⟨a,st,sh,l,b,x,rfl,_⟩:=h
  rfl
 ·obtain ⟨a,st,sh,l,b,x,rfl,S,hT,hO,q⟩:=h
  refine ⟨_,(aB (gL T.bE.cl T.jK (pv 0) (bW iK (fZ T.aP.cl T.hW thH (pv 1)) (fZ T.aP.cl T.iQ thD (pv 1))) m9) (aB (bT T.bE.cl T.kO (pv 0) (jI (Hf rfl) (by rfl) T.QL Ow (aA (aZ T.bE.cl T.kO (pv 0)) (aA (fZ T.aP.cl T.oP thW (pv 1)) aF)))) (aE (a_ (c2 (cf (Df T) T.pD hr aV (aA (pv 1) aF))) (aE (bT T.bE.cl T.dR (pv 0) (fZ T.aP.cl T.iQ thD (pv 1)))) (aE (a_ (tc bY (fZ T.aP.cl T.bS thK (pv 1)) (aW T.Cq)) (aE (bT T.bE.cl T.dR (pv 0) aG)) (aE (a_ (c2 (cf (o_ T) T.lV hr aV (aA (pv 1) aF))) (aB (bT T.bE.cl T.dR (pv 0) aG) (aE (bJ (cP (pv 0) T.bE.cl T.dD.m (uO T) hr.m T.dD.b .nil aV (aA (cf (tF T) T.gU hr aV (aA (pv 1) aF)) aF))))) aR)))))))),?_⟩
  obtain ⟨dx,hA⟩:=S.obj
  have nas:a≠st:=cX hA S.str nofun
  have nah:a≠sh:=cX hA S.shr nofun
  have fx:∀ o,iV t H (a6 H a o):=fun o=>iV.chg hA T.Qq
  refine ⟨_,rfl,a,dx,_,_,rfl,hA,rfl,_,rfl,b,x,rfl,hT,_,rfl,b,x,rfl,hT,_,_,rfl,rfl,_,_,rfl,rfl,dx,_,hA,sm 5,?_⟩
  have e1:columnSum l+(bI x+c7 x)=columnSum (l++[x]):=by rw [Em,Kh]
  rw [e1]
  refine ⟨_,rfl,a,dx,_,_,rfl,aD,rfl,_,rfl,b,x,rfl,hT.fix (fx _),_,_,rfl,_,rfl,a,dx,_,rfl,aD,sm 5,?_⟩
  rw [SR,<-Cy,bU]
  have hB:=hT.fix (fx (.ins t.fX dx (MZ (columnSum (l++[x])) (columnWidth (l++[x])) (lastDepth l) st sh)))
  have kup:∀ o,bG [a,st,sh] H (a6 H a o):=fun o=>bG.chg (by simp)
  have don:∀ (d:Int),d=lastDepth (l++[x])->isGlue x=false->Q .eX (a6 H a (.ins t.fX dx (MZ (columnSum (l++[x])) (columnWidth (l++[x])) d st sh))):=by
   rintro d rfl hg
   obtain ⟨z1,z2⟩:=Qx l x (Li hg)
   refine q _ (kup _) ⟨⟨dx,aD⟩,?_,?_,S.ne⟩
   ·rw [aJ (Ne.symm nas),z1];exact S.str
   ·rw [aJ (Ne.symm nah),z2];exact S.shr
  refine ⟨_,rfl,b,x,rfl,hB,_,rfl,aQ (fun z=>?_) fun z=>?_⟩
  ·refine ⟨_,rfl,b,x,rfl,hB,_,rfl,a,dx,_,rfl,aD,sm 5,?_⟩
   rw [bU]
   have hd:c7 x=lastDepth (l++[x]):=by
    rw [kQ]
    cases x<;>first|rfl|cases z
   exact don _ hd (by cases x<;>first|rfl|cases z)
  refine ⟨_,rfl,b,x,rfl,hB,rfl,_,rfl,aQ (fun z1=>?_) fun z1=>?_⟩
  ·rw [a8,decide_eq_true_eq] at z1
   refine ⟨_,rfl,a,dx,_,rfl,aD,sm 5,?_⟩
   rw [bU]
   refine don 0 ?_ (by cases x<;>first|rfl|cases z1)
   rw [kQ]
   cases x<;>first|rfl|cases z1
  refine ⟨_,rfl,b,x,rfl,hB,_,rfl,aQ (fun z2=>?_) fun z2=>?_⟩
  ·refine ⟨_,rfl,a,dx,_,rfl,aD,sm 5,?_⟩
   rw [bU]
   obtain ⟨g,hg⟩:=CZ z2
   have hd:(0:Int)=lastDepth (l++[x]):=by
    rw [kQ]
    cases x<;>first|rfl|cases z2
   have fx2:∀ o,iV t H (a6 H a o):=fx
   refine ⟨_,rfl,a,dx,_,rfl,aD,rfl,_,rfl,b,x,g,rfl,hT.fix (fx _),hg,fun gl ngl=>?_⟩
   rw [hd] at ngl ⊢
   have e0:∀ {c:Addr} {o:HO},c≠a->H c=some o->a6 H a (.ins t.fX dx (MZ (columnSum (l++[x])) (columnWidth (l++[x])) (lastDepth (l++[x])) st sh)) c=some o:=fun hc e=>by rw [aJ hc];exact e
   have hs1:=e0 (Ne.symm nas) S.str
   have hs2:=e0 (Ne.symm nah) S.shr
   have ng1:gl≠st:=Ne.symm (aH hs1 ngl)
   have ng2:gl≠sh:=Ne.symm (aH hs2 ngl)
   have ng3:gl≠a:=fun z=>by rw [z,aD] at ngl;cases ngl
   refine ⟨a,dx,_,_,_,st,sh,eJ (stretchOf l),eJ (shrinkOf l),gl,g,rfl,aK.new ngl _ _ aD,aK.new ngl _ _ hs1,aK.new ngl _ _ hs2,S.ne,rfl,rfl,.inl aD,ng1,ng2,(hO g hg).1,(hO g hg).2,?_⟩
   rw [<-JO l x g hg (hO g hg).1,<-Kw l x g hg (hO g hg).2]
   refine q _ ?_ ⟨⟨dx,?_⟩,?_,aD,S.ne⟩
   ·refine (((kup _).trans (aK.new ngl).fC).trans (bG.chg (by simp))).trans (bG.chg (by simp))
   ·rw [aJ nah,aJ nas,aJ (Ne.symm ng3),aD];rfl
   ·rw [aJ S.ne,aD]
  ·refine don _ ?_ z2
   rw [kQ,if_neg]
   rw [a8,decide_eq_false_iff_not] at z1
   exact Og z z1 z2
inductive mS(t:bH)(K:Frag)(vs:List V)(H:Hp)(Q:VK)(E:XK):Prop
 | mk:∀ a st sh l m,vs=[.ref a,.int m]->kN t H a st sh l->Q (.int (columnDepth l m)) H->mS t K vs H Q E
theorem mI{t:bH}(T:b7 K mg t):bL P w K mg base hJ 1 t.cN.f t.cN.fd ["self","greatest"] (mS t K):=by
 refine T.cN.F.ok uY (fun vs H Q E h=>?_) (fun cdv A outer s H vs Q E hr h=>?_)
 ·obtain ⟨a,st,sh,l,m,rfl,_⟩:=h
  rfl
 ·obtain ⟨a,st,sh,l,m,rfl,S,q⟩:=h
  refine ⟨_,(aB (a_ (tc nA (pv 1) aG) (aE (aM (aZ T.bE.cl T.dR (pv 0)))) aR) (aE (aM (jI (wK rfl) (by rfl) T.MN IL (aA (aZ T.bE.cl T.dR (pv 0)) (aA (pv 1) aF)))))),?_⟩
  obtain ⟨dx,hA⟩:=S.obj
  have q:∀ d,columnDepth l m=d->Q (.int d) H:=fun d e=>e▸q
  refine ⟨_,rfl,_,_,rfl,rfl,_,rfl,aQ (fun z=>?_) fun z=>?_⟩
  ·refine ⟨_,rfl,a,dx,_,_,rfl,hA,rfl,q _ ?_⟩
   unfold columnDepth
   rw [if_pos (of_decide_eq_true z)]
  ·refine ⟨_,rfl,a,dx,_,_,rfl,hA,rfl,_,rfl,_,_,rfl,q _ ?_⟩
   unfold columnDepth
   rw [if_neg (of_decide_eq_false z),Ql]
   exact Int.min_comm _ _
inductive rC(t:bH)(K:Frag)(vs:List V)(H:Hp)(Q:VK)(E:XK):Prop
 | mk:∀ a st sh l h m,vs=[.ref a,.int h,.int m]->kN t H a st sh l->Q (.int (h - (columnSum l - columnDepth l m))) H->rC t K vs H Q E
theorem qN{t:bH}(T:b7 K mg t):bL P w K mg base hJ 2 t.dW.f t.dW.fd ["self","height","greatest_depth"] (rC t K):=by
 refine T.dW.F.ok Ce (fun vs H Q E h=>?_) (fun cdv A outer s H vs Q E hr h=>?_)
 ·obtain ⟨a,st,sh,l,hh,m,rfl,_⟩:=h
  rfl
 ·obtain ⟨a,st,sh,l,hh,m,rfl,S,q⟩:=h
  refine ⟨_,(aE (aM (bW jW (pv 1) (bW jW (aZ T.bE.cl T.jK (pv 0)) (cP (pv 0) T.bE.cl T.cN.m (mI T) hr.m T.cN.b .nil aV (aA (pv 2) aF)))))),?_⟩
  obtain ⟨dx,hA⟩:=S.obj
  exact ⟨_,rfl,_,rfl,a,dx,_,_,rfl,hA,rfl,_,rfl,a,dx,_,rfl,hA,rfl,_,rfl,a,st,sh,l,m,rfl,S,_,_,rfl,rfl,_,_,rfl,rfl,q⟩
def oC(l:List Thing):Prop:=∀ x∈l,Hi x
inductive El(t:bH)(K:Frag)(vs:List V)(H:Hp)(Q:VK)(E:XK):Prop
 | mk:∀ la as l,vs=[.ref la]->cT K H la (as.map V.ref)->aL t H as l->oC l->(∀ a st sh H',aK H H'->H a=none->kN t H' a st sh l->Q (.ref a) H')->El t K vs H Q E
theorem zW{t:bH}(T:b7 K mg t):bL P w K mg base hJ 3 t.pK.f t.pK.fd ["things"] (El t K):=by
 refine T.pK.F.ok z_ (fun vs H Q E h=>?_) (fun cdv A outer s H vs Q E hr h=>?_)
 ·obtain ⟨la,as,l,rfl,_⟩:=h
  rfl
 ·obtain ⟨la,as,l,rfl,hL,hT,hO,q⟩:=h
  refine ⟨_,(aB (sv 1 z_.nd (BE T.bE.make (Bi T) hr.m rfl T.bE.g T.bE.b .nil aV)) (aB (p7 PassesOwn.never rfl (wQ (pv 0)) (i8 (i:=2) z_.nd rfl (Or.inl rfl)) (aE (bJ (cP (pv 1) T.bE.cl T.c_.m (oQ T) hr.m T.c_.b .nil aV (aA (pv 2) aF))))) (aE (aM (pv 1))))),?_⟩
  intro p dx np nd ne
  refine ⟨p,dx,rfl,aD,fun st sh H1 u1 n1 n2 S=>⟨rfl,?_⟩⟩
  have nh:∀ {b:Addr},a6 (a6 H dx (.own p)) p (.ins t.fX dx []) b=none->H b=none:=fun {b} e=>by
   cases q:H b with
   | none=>rfl
   | some o =>
    rw [aJ (aH q np),aJ (aH q nd),q] at e
    cases e
  have s1:aK H H1:=fun b o e=>u1 b o (by rw [aJ (aH e np),aJ (aH e nd)];exact e) (by simpa using aH e np)
  have fr:∀ b∈[p,st,sh],H b=none:=by
   intro b hb
   simp only [mem_cons,not_mem_nil,or_false] at hb
   rcases hb with rfl|rfl|rfl
   ·exact np
   ·exact nh n1
   ·exact nh n2
  refine ⟨_,rfl,la,rfl,⟨_,s1.seq hL⟩,BA (K:=K) (a:=la) (xs:=as.map V.ref) (fun i σ H'=>∃ v:Option V,σ=[some (.ref la),some (.ref p),v]/\aK H H'/\kN t H' p st sh (l.take i))
   ⟨none,rfl,s1,S⟩ (fun i σ H' _ ⟨_,_,s2,_⟩=>s2.seq hL) ?_ ?_⟩
  ·rintro i y σ H' hi ⟨v,rfl,s2,S2⟩
   obtain ⟨a,ha,rfl⟩:=wR hi
   obtain ⟨x,hx,hA⟩:=hT.get ha
   obtain ⟨dx2,hA2⟩:=S2.obj
   refine ⟨_,rfl,p,dx2,_,rfl,hA2,rfl,_,rfl,p,st,sh,_,a,x,rfl,S2,hA.fix s2.fix,hO x (List.mem_of_getElem? hx),fun H3 u3 S3=>⟨_,rfl,?_,?_⟩⟩
   ·exact fun b o e=>u3 b o (s2 b o e) fun m=>by rw [fr b m] at e;cases e
   ·rw [List.take_add_one,hx];exact S3
  ·rintro σ H' ⟨v,rfl,s2,S2⟩
   refine ⟨_,rfl,q p st sh H' s2 np ?_⟩
   rwa [length_map,hT.len,List.take_length] at S2
inductive tN(t:bH)(K:Frag)(vs:List V)(H:Hp)(Q:VK)(E:XK):Prop
 | mk:∀ (la:Addr) (xs:List Int),vs=[.ref la]->cT K H la (xs.map V.int)->xs.length=4->Q (.int (cH xs)) H->tN t K vs H Q E
theorem Qg{xs:List Int}:∀ {i:Nat},i<4->(∀ j,j<i->¬ 0<xs.getD (3 - j) 0)->0<xs.getD (3 - i) 0->cH xs=((3 - i:Nat):Int)
 | 0,_,_,h=>by unfold cH;rw [if_pos h];rfl
 | 1,_,n,h=>by unfold cH;rw [if_neg (n 0 (by omega)),if_pos h];rfl
 | 2,_,n,h=>by unfold cH;rw [if_neg (n 0 (by omega)),if_neg (n 1 (by omega)),if_pos h];rfl
 | 3,_,n,h=>by unfold cH;rw [if_neg (n 0 (by omega)),if_neg (n 1 (by omega)),if_neg (n 2 (by omega)),if_pos h];rfl
theorem M4{xs:List Int}(n:∀ j,j<4->¬ 0<xs.getD (3 - j) 0):cH xs=-1:=by
 unfold cH;rw [if_neg (n 0 (by omega)),if_neg (n 1 (by omega)),if_neg (n 2 (by omega)),if_neg (n 3 (by omega))]
theorem I0{xs:List Int}(h2:¬ cH xs<0):∃ k:Nat,k<4/\cH xs=(k:Int):=by
 unfold cH at *
 by_cases a:0<xs.getD 3 0
 ·exact ⟨3,by omega,by rw [if_pos a];rfl⟩
 by_cases b:0<xs.getD 2 0
 ·exact ⟨2,by omega,by rw [if_neg a,if_pos b];rfl⟩
 by_cases c:0<xs.getD 1 0
 ·exact ⟨1,by omega,by rw [if_neg a,if_neg b,if_pos c];rfl⟩
 by_cases d:0<xs.getD 0 0
 ·exact ⟨0,by omega,by rw [if_neg a,if_neg b,if_neg c,if_pos d];rfl⟩
 rw [if_neg a,if_neg b,if_neg c,if_neg d] at h2
 exact absurd (by decide) h2
theorem HW{xs:List Int}(h1:¬ 0<cH xs)(h2:¬ cH xs<0):cH xs=0/\0<xs.getD 0 0:=by
 obtain ⟨k,hk,e⟩:∃ k:Nat,k<4/\cH xs=(k:Int):=I0 h2
 have k0:k=0:=by omega
 refine ⟨by rw [e,k0];rfl,?_⟩
 rw [k0] at e
 unfold cH at e
 by_cases a:0<xs.getD 3 0
 ·rw [if_pos a] at e;cases e
 by_cases b:0<xs.getD 2 0
 ·rw [if_neg a,if_pos b] at e;cases e
 by_cases c:0<xs.getD 1 0
 ·rw [if_neg a,if_neg b,if_pos c] at e;cases e
 by_cases d:0<xs.getD 0 0
 ·exact d
 rw [if_neg a,if_neg b,if_neg c,if_neg d] at e;cases e
theorem M9{i:Nat}{y:V}(h:([.int 3,.int 2,.int 1,.int 0]:List V)[i]?=some y):i<4/\y=.int ((3 - i:Nat):Int):=by
 match i,h with
 | 0,h=>cases h;exact ⟨by omega,rfl⟩
 | 1,h=>cases h;exact ⟨by omega,rfl⟩
 | 2,h=>cases h;exact ⟨by omega,rfl⟩
 | 3,h=>cases h;exact ⟨by omega,rfl⟩
 | n+4,h=>cases h
theorem mY{t:bH}(T:b7 K mg t):bL P w K mg base hJ 1 t.fO.f t.fO.fd ["by_orders"] (tN t K):=by
 refine T.fO.F.ok sX (fun vs H Q E h=>?_) (fun cdv A outer s H vs Q E hr h=>?_)
 ·obtain ⟨la,xs,rfl,_⟩:=h
  rfl
 ·obtain ⟨la,xs,rfl,hL,h4,q⟩:=h
  refine ⟨_,(aB (p7 PassesOwn.never rfl (RF (MO (v:=.ref t.orders) rfl T.tT rfl)) (i8 (i:=1) sX.nd rfl (Or.inl rfl)) (aE (a_ (tc sP (ix (pv 0) (pv 1)) aG) (aE (aM (pv 1))) aR))) (aE (aM (o7 jV aG)))),?_⟩
  have hT:SqT K H t.orders [.int 3,.int 2,.int 1,.int 0]:=.inr T.tP
  refine ⟨t.orders,rfl,⟨_,hT⟩,Qu (K:=K) (a:=t.orders) (xs:=[.int 3,.int 2,.int 1,.int 0]) (fun i σ H'=>H'=H/\∃ v:Option V,σ=[some (.ref la),v]/\∀ j,j<i->¬ 0<xs.getD (3 - j) 0)
   ⟨rfl,none,rfl,fun j hj=>absurd hj (Nat.not_lt_zero _)⟩ (fun i σ H' _ ⟨e,_⟩=>by rw [e];exact hT) ?_ ?_⟩
  ·rintro i y σ H' hi ⟨rfl,v,rfl,hn⟩
   obtain ⟨hi4,rfl⟩:=M9 hi
   refine ⟨_,rfl,_,rfl,la,_,_,_,rfl,rfl,hL,b6 (j:=3 - i) (GL (by omega)),_,_,rfl,rfl,_,rfl,aQ (fun z=>⟨_,rfl,?_⟩) fun z=>⟨rfl,_,rfl,fun j hj=>?_⟩⟩
   ·rw [<-Qg hi4 hn (of_decide_eq_true z)];exact q
   ·by_cases e:j=i
    ·subst e;exact of_decide_eq_false z
    ·exact hn j (by omega)
  ·rintro σ H' ⟨rfl,v,rfl,hn⟩
   refine ⟨1,rfl,?_⟩
   rw [M4 hn] at q
   exact q
def stB(x:Int)(st:List Int):Int:=if x=0\/0<cH st then 0 else if cH st<0 then WORST else min WORST (100*x ^ 3 / (st.getD 0 0) ^ 3)
theorem Qc{x:Int}(h:x.natAbs<2 ^ 64):RI x 3:=⟨by decide,by decide,h⟩
theorem Eb{x:Int}(h0:0<x)(h:x<2 ^ 64):MK 0 (x ^ 3):=by
 have e:x=(x.toNat:Int):=by omega
 have h1:x.toNat<2 ^ 64:=by omega
 have h2:x.toNat ^ 3<=(2 ^ 64) ^ 3:=Nat.pow_le_pow_left (by omega) 3
 have h3:0<x.toNat ^ 3:=Nat.pow_pos (by omega)
 have e3:x ^ 3=((x.toNat ^ 3:Nat):Int):=by rw [Int.natCast_pow,<-e]
 have h4:(2 ^ 64) ^ 3<2 ^ 1000:=by rw [<-Nat.pow_mul];exact Nat.pow_lt_pow_right (by omega) (by omega)
 have h5:x.toNat ^ 3<2 ^ 1000:=Nat.lt_of_le_of_lt h2 h4
 refine ⟨?_,?_⟩
 ·rw [e3];exact Int.ofNat_lt.mpr h3
 ·rw [e3,show (2:Int) ^ 1000=((2 ^ 1000:Nat):Int) from rfl]
  exact Int.ofNat_lt.mpr h5
inductive mM(t:bH)(K:Frag)(vs:List V)(H:Hp)(Q:VK)(E:XK):Prop
 | mk:∀ (x:Int) (la:Addr) (st:List Int),vs=[.int x,.ref la]->cT K H la (st.map V.int)->st.length=4->x.natAbs<2 ^ 64->st.getD 0 0<2 ^ 64->Q (.int (stB x st)) H->mM t K vs H Q E
theorem uC{t:bH}(T:b7 K mg t):bL P w K mg base hJ 2 t.d9.f t.d9.fd ["lack","stretches"] (mM t K):=by
 refine T.d9.F.ok l8 (fun vs H Q E h=>?_) (fun cdv A outer s H vs Q E hr h=>?_)
 ·obtain ⟨x,la,xs,rfl,_⟩:=h
  rfl
 ·obtain ⟨x,la,xs,rfl,hL,h4,b1,b2,q⟩:=h
  have q:∀ d,stB x xs=d->Q (.int d) H:=fun d e=>e▸q
  refine ⟨_,(aB (sv 2 l8.nd (cf (mY T) T.fO hr aV (aA (pv 1) aF))) (aB (a_ (PW.pt (kX (tc bY (pv 0) aG) (jD (tc sP (pv 2) aG)))) (aE (aM aG)) aR) (aB (a_ (tc nA (pv 2) aG) (aE (aM (aW T.D0))) aR) (aE (aM (jI (wK rfl) (by rfl) T.MN IL (aA (aW T.D0) (aA (bW wC (bW Eu aG (bW Jt (pv 0) aG)) (bW Jt (ix (pv 1) aG) aG)) aF)))))))),?_⟩
  refine ⟨_,rfl,la,xs,rfl,hL,h4,?_⟩
  refine ⟨_,rfl,rfl,_,rfl,aQ (fun z=>oB ?_) fun z=>⟨_,rfl,_,_,rfl,rfl,_,rfl,aQ (fun z2=>?_) fun z2=>?_⟩⟩
  ·rw [a8,decide_eq_true_eq] at z
   exact q _ (by unfold stB;rw [if_pos (.inl z)])
  ·exact q _ (by unfold stB;rw [if_pos (.inr (of_decide_eq_true z2))])
  rw [a8,decide_eq_false_iff_not] at z
  have z2:=of_decide_eq_false z2
  have e0:¬ (x=0\/0<cH xs):=fun h=>h.elim z z2
  refine ⟨_,rfl,_,_,rfl,rfl,_,rfl,aQ (fun z3=>?_) fun z3=>?_⟩
  ·exact q _ (by unfold stB;rw [if_neg e0,if_pos (of_decide_eq_true z3)];rfl)
  have z3:=of_decide_eq_false z3
  obtain ⟨g0,g1⟩:=HW z2 z3
  refine ⟨_,rfl,_,_,rfl,rfl,Qc b1,_,_,rfl,rfl,.inl ⟨by decide,by decide⟩,_,rfl,la,_,_,_,rfl,rfl,hL,b6 (j:=0) (GL (by omega)),_,_,rfl,rfl,Qc (by omega),_,_,rfl,rfl,Eb g1 b2,_,_,rfl,q _ ?_⟩
  unfold stB
  rw [if_neg e0,if_neg z3,Ql]
  rfl
def FO:Option Int->V
 | some k=>.int k
 | none=>.eX
inductive E8(t:bH)(K:Frag)(vs:List V)(H:Hp)(Q:VK)(E:XK):Prop
 | mk:∀ (x:Int) (la lb:Addr) (st sh:List Int),vs=[.int x,.ref la,.ref lb]->cT K H la (st.map V.int)->cT K H lb (sh.map V.int)->st.length=4->sh.length=4->x.natAbs<2 ^ 64->st.getD 0 0<2 ^ 64->sh.getD 0 0<2 ^ 64->Q (FO (dG x st sh)) H->E8 t K vs H Q E
theorem Fi{t:bH}(T:b7 K mg t):bL P w K mg base hJ 3 t.dG.f t.dG.fd ["lack","stretches","shrinks"] (E8 t K):=by
 refine T.dG.F.ok FX (fun vs H Q E h=>?_) (fun cdv A outer s H vs Q E hr h=>?_)
 ·obtain ⟨x,la,lb,xs,ys,rfl,_⟩:=h
  rfl
 ·obtain ⟨x,la,lb,xs,ys,rfl,hL,hM,h4,h5,b1,b2,b3,q⟩:=h
  have q:∀ d,dG x xs ys=d->Q (FO d) H:=fun d e=>e▸q
  refine ⟨_,(aB (a_ (tc Mz (pv 0) aG) (aE (aM (cf (uC T) T.d9 hr aV (aA (pv 0) (aA (pv 1) aF))))) aR) (aB (sv 3 FX.nd (cf (mY T) T.fO hr aV (aA (pv 2) aF))) (aB (a_ (tc sP (pv 3) aG) (aE (aM aG)) aR) (aB (a_ (PW.pt (kX (tc nA (pv 3) aG) (jD (tc sP (o7 jV (pv 0)) (ix (pv 2) aG))))) (aE (aM Co)) aR) (aE (aM (bW wC (bW Eu aG (bW Jt (o7 jV (pv 0)) aG)) (bW Jt (ix (pv 2) aG) aG)))))))),?_⟩
  refine ⟨_,rfl,_,_,rfl,rfl,_,rfl,aQ (fun z=>?_) fun z=>?_⟩
  ·refine ⟨_,rfl,_,rfl,x,la,xs,rfl,hL,h4,b1,b2,?_⟩
   exact q (some _) (by unfold dG;rw [if_pos (of_decide_eq_true z)];rfl)
  have z:=of_decide_eq_false z
  refine ⟨_,rfl,lb,ys,rfl,hM,h5,?_⟩
  refine ⟨_,rfl,_,_,rfl,rfl,_,rfl,aQ (fun z2=>?_) fun z2=>?_⟩
  ·exact q (some _) (by unfold dG;rw [if_neg z,if_pos (of_decide_eq_true z2)])
  have z2:=of_decide_eq_false z2
  refine ⟨_,rfl,_,_,rfl,rfl,_,rfl,aQ (fun z3=>oB ?_) fun z3=>⟨_,rfl,_,rfl,_,rfl,lb,_,_,_,rfl,rfl,hM,b6 (j:=0) (GL (by omega)),_,_,rfl,rfl,_,rfl,aQ (fun z4=>?_) fun z4=>?_⟩⟩
  ·exact q none (by unfold dG;rw [if_neg z,if_neg z2,if_pos (.inl (of_decide_eq_true z3))])
  ·exact q none (by unfold dG;rw [if_neg z,if_neg z2,if_pos (.inr (of_decide_eq_true z4))])
  have z3:=of_decide_eq_false z3
  have z4:=of_decide_eq_false z4
  obtain ⟨g0,g1⟩:=HW z2 z3
  refine ⟨_,rfl,_,rfl,_,_,rfl,rfl,Qc (by omega),_,_,rfl,rfl,.inl ⟨by decide,by decide⟩,_,rfl,lb,_,_,_,rfl,rfl,hM,b6 (j:=0) (GL (by omega)),_,_,rfl,rfl,Qc (by omega),_,_,rfl,rfl,Eb g1 b3,q (some _) ?_⟩
  unfold dG
  rw [if_neg z,if_neg z2,if_neg (fun h=>h.elim z3 z4)]
  rfl
inductive wH(t:bH)(K:Frag)(vs:List V)(H:Hp)(Q:VK)(E:XK):Prop
 | mk:∀ (x:Int) (la lb:Addr) (st sh:List Int),vs=[.int x,.ref la,.ref lb]->cT K H la (st.map V.int)->cT K H lb (sh.map V.int)->st.length=4->sh.length=4->(∀ p,H p=none->Q (.ref p) (a6 H p (.lst ((iT x st sh).map V.int))))->wH t K vs H Q E
theorem Fb{t:bH}(T:b7 K mg t):bL P w K mg base hJ 2 t.j3.f t.j3.fd ["lack","stretches","shrinks"] (wH t K):=by
 refine T.j3.F.ok kM (fun vs H Q E h=>?_) (fun cdv A outer s H vs Q E hr h=>?_)
 ·obtain ⟨x,la,lb,xs,ys,rfl,_⟩:=h
  rfl
 ·obtain ⟨x,la,lb,xs,ys,rfl,hL,hM,h4,h5,q⟩:=h
  have q3:∀ (a b c:Int),iT x xs ys=[a,b,c]->([V.int a,V.int b,V.int c].length<=sizeLine/\∀ p,H p=none->Q (.ref p) (a6 H p (.lst [V.int a,V.int b,V.int c]))):=by
   intro a b c e
   rw [e] at q
   exact ⟨by show 3<=sizeLine;decide,fun p hp=>q p hp⟩
  refine ⟨_,(aB (sv 3 kM.nd (K5 (tc sP (pv 0) aG) (pv 1) (pv 2))) (aB (sv 4 kM.nd (cf (mY T) T.fO hr aV (aA (pv 3) aF))) (aB (a_ (PW.pt (kX (tc bY (pv 0) aG) (jD (tc nA (pv 4) aG)))) (aE (aM (bR (aA aG (aA aG (aA aG aF)))))) aR) (aB (sv 5 kM.nd (ix (pv 3) (pv 4))) (aB (a_ (PW.pt (FN (tc bY (pv 4) aG) (BM (tc sP (o7 jV (pv 0)) (pv 5))))) (aE (aM (bR (aA aG (aA (o7 jV (pv 5)) (aA (pv 5) aF)))))) aR) (aE (aM (bR (aA (pv 4) (aA (pv 0) (aA (pv 5) aF))))))))))),?_⟩
  refine ⟨_,rfl,_,_,rfl,rfl,_,rfl,aQ (fun zx=>⟨_,rfl,?_⟩) fun zx=>⟨_,rfl,?_⟩⟩
  ·refine ⟨_,rfl,la,xs,rfl,hL,h4,?_⟩
   have e1:iT x xs ys=if x=0\/cH xs<0 then [0,0,1] else if cH xs=0/\xs.getD 0 0 < -x then [0,-(xs.getD 0 0),xs.getD 0 0] else [cH xs,x,xs.getD (cH xs).toNat 0]:=by
    unfold iT;rw [if_pos (of_decide_eq_true zx)]
   refine ⟨_,rfl,rfl,_,rfl,aQ (fun z=>oB ?_) fun z=>⟨_,rfl,_,_,rfl,rfl,_,rfl,aQ (fun z2=>?_) fun z2=>?_⟩⟩
   ·rw [a8,decide_eq_true_eq] at z
    exact q3 _ _ _ (by rw [e1,if_pos (.inl z)])
   ·exact q3 _ _ _ (by rw [e1,if_pos (.inr (of_decide_eq_true z2))])
   rw [a8,decide_eq_false_iff_not] at z
   have z2:=of_decide_eq_false z2
   have e0:¬ (x=0\/cH xs<0):=fun h=>h.elim z z2
   obtain ⟨k,hk,gk⟩:=I0 z2
   rw [gk]
   refine ⟨_,rfl,_,rfl,la,_,_,_,rfl,rfl,hL,b6 (j:=k) (GL (by omega)),?_⟩
   refine ⟨_,rfl,rfl,_,rfl,aQ (fun z3=>⟨_,rfl,_,rfl,_,rfl,_,_,rfl,rfl,_,rfl,aQ (fun z4=>?_) fun z4=>?_⟩) fun z3=>NR ?_⟩
   ·rw [a8,decide_eq_true_eq] at z3
    have k0:k=0:=by omega
    subst k0
    refine ⟨_,rfl,_,rfl,_,rfl,q3 _ _ _ ?_⟩
    rw [e1,if_neg e0,if_pos ⟨by rw [gk];rfl,of_decide_eq_true z4⟩]
   ·refine ⟨_,rfl,_,rfl,_,rfl,q3 _ _ _ ?_⟩
    rw [a8,decide_eq_true_eq] at z3
    have k0:k=0:=by omega
    subst k0
    rw [e1,if_neg e0,if_neg (fun h=>of_decide_eq_false z4 h.2),gk];rfl
   ·refine ⟨_,rfl,_,rfl,_,rfl,q3 _ _ _ ?_⟩
    rw [a8,decide_eq_false_iff_not] at z3
    rw [e1,if_neg e0,if_neg (fun h=>z3 (by rw [<-gk];exact h.1)),gk];rfl
  ·refine ⟨_,rfl,lb,ys,rfl,hM,h5,?_⟩
   have e1:iT x xs ys=if x=0\/cH ys<0 then [0,0,1] else if cH ys=0/\ys.getD 0 0 < -x then [0,-(ys.getD 0 0),ys.getD 0 0] else [cH ys,x,ys.getD (cH ys).toNat 0]:=by
    unfold iT;rw [if_neg (of_decide_eq_false zx)]
   refine ⟨_,rfl,rfl,_,rfl,aQ (fun z=>oB ?_) fun z=>⟨_,rfl,_,_,rfl,rfl,_,rfl,aQ (fun z2=>?_) fun z2=>?_⟩⟩
   ·rw [a8,decide_eq_true_eq] at z
    exact q3 _ _ _ (by rw [e1,if_pos (.inl z)])
   ·exact q3 _ _ _ (by rw [e1,if_pos (.inr (of_decide_eq_true z2))])
   rw [a8,decide_eq_false_iff_not] at z
   have z2:=of_decide_eq_false z2
   have e0:¬ (x=0\/cH ys<0):=fun h=>h.elim z z2
   obtain ⟨k,hk,gk⟩:=I0 z2
   rw [gk]
   refine ⟨_,rfl,_,rfl,lb,_,_,_,rfl,rfl,hM,b6 (j:=k) (GL (by omega)),?_⟩
   refine ⟨_,rfl,rfl,_,rfl,aQ (fun z3=>⟨_,rfl,_,rfl,_,rfl,_,_,rfl,rfl,_,rfl,aQ (fun z4=>?_) fun z4=>?_⟩) fun z3=>NR ?_⟩
   ·rw [a8,decide_eq_true_eq] at z3
    have k0:k=0:=by omega
    subst k0
    refine ⟨_,rfl,_,rfl,_,rfl,q3 _ _ _ ?_⟩
    rw [e1,if_neg e0,if_pos ⟨by rw [gk];rfl,of_decide_eq_true z4⟩]
   ·refine ⟨_,rfl,_,rfl,_,rfl,q3 _ _ _ ?_⟩
    rw [a8,decide_eq_true_eq] at z3
    have k0:k=0:=by omega
    subst k0
    rw [e1,if_neg e0,if_neg (fun h=>of_decide_eq_false z4 h.2),gk];rfl
   ·refine ⟨_,rfl,_,rfl,_,rfl,q3 _ _ _ ?_⟩
    rw [a8,decide_eq_false_iff_not] at z3
    rw [e1,if_neg e0,if_neg (fun h=>z3 (by rw [<-gk];exact h.1)),gk];rfl
def Pl(u:Addr)(k:Int)(r:Addr):List (Str×V):=[("upper_part",.ref u),("penalty",.int k),("rest",.ref r)]
inductive Bx(t:bH)(K:Frag)(vs:List V)(H:Hp)(Q:VK)(E:XK):Prop
 | mk:∀ (p dx u r:Addr) (k:Int),vs=[.ref p,.ref u,.int k,.ref r]->H p=some (.ins t.rG dx [])->Q .eX (a6 H p (.ins t.rG dx (Pl u k r)))->Bx t K vs H Q E
theorem Jr{t:bH}(T:b7 K mg t):bL P w K mg base hJ 1 t.fD.f t.fD.fd ["self","upper_part","penalty","rest"] (Bx t K):=by
 refine T.fD.F.ok Ii (fun vs H Q E h=>?_) (fun cdv A outer s H vs Q E hr h=>?_)
 ·obtain ⟨p,dx,u,r,k,rfl,_⟩:=h
  rfl
 ·obtain ⟨p,dx,u,r,k,rfl,hp,q⟩:=h
  refine ⟨_,(aB (bT T.fD.cl T.pB (pv 0) (pv 1)) (aB (bT T.fD.cl T.sR (pv 0) (pv 2)) (aE (bT T.fD.cl T.B6 (pv 0) (pv 3))))),?_⟩
  refine ⟨_,rfl,_,rfl,p,dx,_,rfl,hp,sm 0,_,rfl,_,rfl,p,dx,_,rfl,aD,sm 1,?_⟩
  rw [bU]
  refine ⟨_,rfl,_,rfl,p,dx,_,rfl,aD,sm 2,?_⟩
  rw [bU]
  exact q
inductive BJ(t:bH)(K:Frag)(vs:List V)(H:Hp)(Q:VK)(E:XK):Prop
 | mk:∀ k:Int,vs=[.int k]->Q (.bl (decide (k<=-NEVER))) H->BJ t K vs H Q E
theorem nS{t:bH}(T:b7 K mg t):bL P w K mg base hJ 1 t.i4.f t.i4.fd ["penalty"] (BJ t K):=by
 refine T.i4.F.ok JF (fun vs H Q E h=>?_) (fun cdv A outer s H vs Q E hr h=>?_)
 ·obtain ⟨k,rfl,_⟩:=h
  rfl
 ·obtain ⟨k,rfl,q⟩:=h
  refine ⟨_,(aE (aM (ec pT (pv 0) (o7 jV (aW T.lF))))),?_⟩
  exact ⟨_,rfl,_,rfl,_,_,rfl,rfl,q⟩
inductive Ax(t:bH)(K:Frag)(vs:List V)(H:Hp)(Q:VK)(E:XK):Prop
 | mk:∀ (la:Addr) (as:List Addr) (l:List Thing) (i:Nat),vs=[.ref la,.int (i:Int)]->cT K H la (as.map V.ref)->aL t H as l->i<l.length->Q (.bl (isBreak l i)) H->Ax t K vs H Q E
theorem rP{as:List Addr}{i:Nat}{a:Addr}(h:as[i]?=some a):atI (as.map V.ref) (i:Int)=some (.ref a):=b6 (by rw [getElem?_map,h];rfl)
def RG(l:List Thing):Nat->Bool
 | 0=>false
 | k+1=>(l[k]?.map fun (u:Thing)=>!dropped u).getD false
theorem I_{l:List Thing}{i:Nat}{x:Thing}(h:l[i]?=some x)(hg:isGlue x=true):isBreak l i=RG l i:=by
 unfold isBreak
 rw [h]
 cases x with
 | glue g=>cases i<;>rfl
 | leaders g how y=>cases i<;>rfl
 | _=>cases hg
theorem BG{t:bH}(T:b7 K mg t):bL P w K mg base hJ 3 t.lQ.f t.lQ.fd ["things","place"] (Ax t K):=by
 refine T.lQ.F.ok B2 (fun vs H Q E h=>?_) (fun cdv A outer s H vs Q E hr h=>?_)
 ·obtain ⟨la,as,l,i,rfl,_⟩:=h
  rfl
 ·obtain ⟨la,as,l,i,rfl,hL,hT,hi,q⟩:=h
  have q:∀ b,isBreak l i=b->Q (.bl b) H:=fun b e=>e▸q
  refine ⟨_,(aB (sv 2 B2.nd (ix (pv 0) (pv 1))) (aB (a_ (c2 (cf (o_ T) T.lV hr aV (aA (pv 2) aF))) (aE (aM (vM (ec sP (pv 1) aG) (qC (Rj (cf (qA T) T.iO hr aV (aA (ix (pv 0) (bW jW (pv 1) aG)) aF))))))) aR) (aB (a_ (tc bY (fZ T.aP.cl T.bS thK (pv 2)) (aW T.Cq)) (aE (aM (vM (ec nA (bW iK (pv 1) aG) (ln T.f_ (pv 0))) (qC (cf (o_ T) T.lV hr aV (aA (ix (pv 0) (bW iK (pv 1) aG)) aF)))))) aR) (aE (aM (vM (ec bY (fZ T.aP.cl T.bS thK (pv 2)) (aW T.lC)) (qC (ec nA (cf (iA T) T.eZ hr aV (aA (pv 2) aF)) (aW T.lF))))))))),?_⟩
  have hx:l[i]?=some l[i]:=getElem?_eq_getElem hi
  generalize l[i]=x at hx
  obtain ⟨a,ha,hA⟩:=hT.get' hx
  refine ⟨_,rfl,_,rfl,la,_,_,_,rfl,rfl,hL,rP ha,?_⟩
  refine ⟨_,rfl,a,x,rfl,hA,_,rfl,aQ (fun z=>?_) fun z=>?_⟩
  ·have eb:=I_ hx z
   refine ⟨_,rfl,_,_,rfl,rfl,_,rfl,aQ (fun z2=>?_) fun z2=>?_⟩
   ·have h0:(0:Int)<i:=of_decide_eq_true z2
    obtain ⟨k,rfl⟩:∃ k,i=k+1:=⟨i - 1,by omega⟩
    have hy:l[k]?=some l[k]:=getElem?_eq_getElem (by omega)
    generalize l[k]=y at hy
    obtain ⟨b,hb,hB⟩:=hT.get' hy
    have ek:((k+1:Nat):Int) - 1=(k:Int):=by omega
    refine ⟨_,rfl,_,rfl,_,_,rfl,rfl,la,_,_,_,rfl,rfl,hL,?_,b,y,rfl,hB,_,rfl,q _ ?_⟩
    ·rw [ek];exact rP hb
    ·rw [eb];show (l[k]?.map _).getD false=_;rw [hy];rfl
   ·have h0:i=0:=by have:=of_decide_eq_false z2;omega
    subst h0
    exact q _ eb
  refine ⟨_,rfl,a,x,rfl,hA,rfl,_,rfl,aQ (fun z2=>?_) fun z2=>?_⟩
  ·rw [a8,decide_eq_true_eq] at z2
   have eb:isBreak l i=(l[i+1]?.map isGlue).getD false:=by
    unfold isBreak
    rw [hx]
    cases x with
    | kern k=>rfl
    | _=>cases z2
   refine ⟨_,rfl,_,_,rfl,rfl,_,rfl,la,_,rfl,.inl hL,_,_,rfl,rfl,_,rfl,aQ (fun z3=>?_) fun z3=>?_⟩
   ·have h1:i+1<l.length:=by
     have:=of_decide_eq_true z3
     rw [length_map,hT.len] at this
     omega
    have hy:l[i+1]?=some l[i+1]:=getElem?_eq_getElem h1
    generalize l[i+1]=y at hy
    obtain ⟨b,hb,hB⟩:=hT.get' hy
    refine ⟨_,rfl,_,rfl,_,_,rfl,rfl,la,_,_,_,rfl,rfl,hL,?_,b,y,rfl,hB,q _ ?_⟩
    ·exact rP (i:=i+1) hb
    ·rw [eb,hy];rfl
   ·have h1:¬ i+1<l.length:=by
     have:=of_decide_eq_false z3
     rw [length_map,hT.len] at this
     omega
    exact q _ (by rw [eb,List.getElem?_eq_none (by omega)];rfl)
  ·rw [a8,decide_eq_false_iff_not] at z2
   refine ⟨_,rfl,a,x,rfl,hA,rfl,_,rfl,aQ (fun z3=>?_) fun z3=>?_⟩
   ·rw [a8,decide_eq_true_eq] at z3
    refine ⟨_,rfl,a,x,rfl,hA,_,_,rfl,rfl,q _ ?_⟩
    unfold isBreak
    rw [hx]
    cases x with
    | penalty k=>rfl
    | _=>cases z3
   ·rw [a8,decide_eq_false_iff_not] at z3
    refine q _ ?_
    unfold isBreak
    rw [hx]
    cases x with
    | penalty k=>exact absurd rfl z3
    | kern k=>exact absurd rfl z2
    | glue g=>cases z
    | leaders g how y=>cases z
    | _=>rfl
theorem IJ(f:Fit)(p:Int):breakCost f p=(jE f).map fun b=>if p<=-NEVER then p else if b=WORST then VERYBAD else b+p:=by cases f<;>rfl
structure sW(l:List Thing)(h:Int):Prop where
 sm:qI l
 len:l.length<=16000000
 hi:Le h 1152921504606846976
theorem EZ{l:List Thing}(h:qI l)(m:Int):Le (columnDepth l m) 1073741823:=by
 have:=IW h
 unfold columnDepth
 obtain ⟨h1,h2⟩:=this
 split
 ·exact ⟨h1,h2⟩
 ·exact ⟨by omega,by omega⟩
theorem sW.QW{l:List Thing}{h:Int}(c:sW l h)(m:Int):(h - (columnSum l - columnDepth l m)).natAbs<2 ^ 64:=by
 obtain ⟨h1,h2⟩:=EZ c.sm m
 obtain ⟨h3,h4⟩:=rV c.sm
 obtain ⟨h5,h6⟩:=c.hi
 have:=c.len
 omega
theorem sW.str{l:List Thing}{h:Int}(c:sW l h):stretchOf l 0<2 ^ 64:=by
 obtain ⟨h3,h4⟩:=IA c.sm 0
 have:=c.len
 omega
theorem sW.shr{l:List Thing}{h:Int}(c:sW l h):shrinkOf l 0<2 ^ 64:=by
 obtain ⟨h3,h4⟩:=J1 c.sm 0
 have:=c.len
 omega
theorem sW.take{l:List Thing}{h:Int}(c:sW l h)(i:Nat):sW (l.take i) h:=⟨c.sm.sub (List.take_sublist _ _),by rw [length_take];have:=c.len;omega,c.hi⟩
theorem uM{o:Option Int}(h:decide (FO o=.eX)=true):o=none:=by
 cases o with
 | none=>rfl
 | some k=>have:=of_decide_eq_true h;cases this
theorem rL{o:Option Int}(h:decide (FO o=.eX)=false):∃ k,o=some k:=by
 cases o with
 | none=>exact absurd rfl (of_decide_eq_false h)
 | some k=>exact ⟨k,rfl⟩
inductive CL(t:bH)(K:Frag)(vs:List V)(H:Hp)(Q:VK)(E:XK):Prop
 | mk:∀ (a st sh:Addr) (l:List Thing) (h m k:Int),vs=[.ref a,.int h,.int m,.int k]->kN t H a st sh l->sW l h->Q (FO (breakCost (fit l (h - (columnSum l - columnDepth l m))) k)) H->CL t K vs H Q E
theorem Dt{t:bH}(T:b7 K mg t):bL P w K mg base hJ 4 t.oY.f t.oY.fd ["sums","height","greatest_depth","penalty"] (CL t K):=by
 refine T.oY.F.ok CW (fun vs H Q E h=>?_) (fun cdv A outer s H vs Q E hr h=>?_)
 ·obtain ⟨a,st,sh,l,hh,m,k,rfl,_⟩:=h
  rfl
 ·obtain ⟨a,st,sh,l,hh,m,k,rfl,S,C,q⟩:=h
  refine ⟨_,(aB (sv 4 CW.nd (cf (Fi T) T.dG hr aV (aA (cP (pv 0) T.bE.cl T.dW.m (qN T) hr.m T.dW.b .nil aV (aA (pv 1) (aA (pv 2) aF))) (aA (aZ T.bE.cl T.iD (pv 0)) (aA (aZ T.bE.cl T.jN (pv 0)) aF))))) (aB (a_ (rY (CI (pv 4))) (aE (aM Co)) aR) (aB (a_ (c2 (cf (nS T) T.i4 hr aV (aA (pv 3) aF))) (aE (aM (pv 3))) aR) (aB (a_ (tc bY (pv 4) (aW T.D0)) (aE (aM (aW T.AD))) aR) (aE (aM (bW iK (pv 4) (pv 3)))))))),?_⟩
  obtain ⟨dx,hA⟩:=S.obj
  have q:∀ o,breakCost (fit l (hh - (columnSum l - columnDepth l m))) k=o->Q (FO o) H:=fun o e=>e▸q
  rw [IJ,Rk] at q
  refine ⟨_,rfl,a,dx,_,rfl,hA,rfl,_,rfl,_,rfl,a,st,sh,l,hh,m,rfl,S,_,rfl,a,dx,_,_,rfl,hA,rfl,_,rfl,a,dx,_,_,rfl,hA,rfl,_,st,sh,eJ (stretchOf l),eJ (shrinkOf l),rfl,cT.of S.str,cT.of S.shr,rfl,rfl,C.QW m,C.str,C.shr,?_⟩
  generalize dG (hh - (columnSum l - columnDepth l m)) (eJ (stretchOf l)) (eJ (shrinkOf l))=b at q
  refine ⟨_,rfl,_,rfl,aQ (fun z=>?_) fun z=>?_⟩
  ·have:=uM z
   exact q none (by rw [this];rfl)
  obtain ⟨c,rfl⟩:=rL z
  refine ⟨_,rfl,k,rfl,_,rfl,aQ (fun z2=>?_) fun z2=>?_⟩
  ·exact ⟨_,rfl,q (some _) (by simp only [Option.map_some];rw [if_pos (of_decide_eq_true z2)])⟩
  have z2:=of_decide_eq_false z2
  refine ⟨_,rfl,rfl,_,rfl,aQ (fun z3=>?_) fun z3=>?_⟩
  ·have z3:=of_decide_eq_true z3
   exact q (some _) (by simp only [Option.map_some];rw [if_neg z2,if_pos (show c=WORST from V.int.inj z3)];rfl)
  ·have z3:=of_decide_eq_false z3
   exact ⟨_,rfl,_,rfl,_,_,rfl,rfl,q (some _) (by simp only [Option.map_some];rw [if_neg z2,if_neg (fun e=>z3 (by rw [e];rfl))])⟩
inductive HF(t:bH)(K:Frag)(vs:List V)(H:Hp)(Q:VK)(E:XK):Prop
 | mk:∀ (la:Addr) (as:List Addr) (l:List Thing) (h m:Int),vs=[.ref la,.int h,.int m]->cT K H la (as.map V.ref)->aL t H as l->oC l->l.all (fits 8)=true->gA l<16000000->(∀ p H',aK H H'->H p=none->bQ t H' p (vpack l (.to h) m).1->Q (.ref p) H')->HF t K vs H Q E
theorem CS{l:List Thing}(h m:Int)(hf:l.all (fits 8)=true) :
 (((([V.int 6,V.int 1]++[V.int (columnWidth l),V.int h,V.int (columnDepth l m)])++(iT (h - (columnSum l - columnDepth l m)) (eJ (stretchOf l)) (eJ (shrinkOf l))).map V.int)++[V.int 0])++((l.length:Int)::l.flatMap (nums 9)).map V.int)=(nums 9 (vpack l (.to h) m).1).map V.int:=by
 have e2:listNums (nums 8) l=listNums (nums 9) l:=gE hf fun t ht=>(gJ 8 t ht).2.symm
 have e3:nums 9 (vpack l (.to h) m).1=[6,1,columnWidth l,h,columnDepth l m]++([((setting l (h - (columnSum l - columnDepth l m))).order:Int),(setting l (h - (columnSum l - columnDepth l m))).num,((setting l (h - (columnSum l - columnDepth l m))).den:Int)]++([0]++listNums (nums 8) l)):=by
  show nums 9 (.box true _ _ _ _ _ _)=_
  simp only [nums,over,flag,if_true]
  have:columnSum l - columnDepth l m+(h - (columnSum l - columnDepth l m))=h:=by omega
  rw [this];rfl
 rw [e3,Lo,e2]
 simp [listNums]
theorem nV(x:Int)(a b:List Int):(iT x a b).length=3:=by
 unfold iT;simp only [];repeat' split
 all_goals rfl
theorem Nc{t:bH}(T:b7 K mg t):bL P w K mg base hJ 5 t.packed.f t.packed.fd ["things","height","greatest_depth"] (HF t K):=by
 refine T.packed.F.ok w_ (fun vs H Q E h=>?_) (fun cdv A outer s H vs Q E hr h=>?_)
 ·obtain ⟨la,as,l,hh,m,rfl,_⟩:=h
  rfl
 ·obtain ⟨la,as,l,hh,m,rfl,hL,hT,hO,hf,hz,q⟩:=h
  refine ⟨_,(aB (sv 3 w_.nd (cf (zW T) T.pK hr aV (aA (pv 0) aF))) (aB (sv 4 w_.nd (cf (Fb T) T.j3 hr aV (aA (cP (pv 3) T.bE.cl T.dW.m (qN T) hr.m T.dW.b .nil aV (aA (pv 1) (aA (pv 2) aF))) (aA (aZ T.bE.cl T.iD (pv 3)) (aA (aZ T.bE.cl T.jN (pv 3)) aF))))) (aB (sv 5 w_.nd (bR (aA (aZ T.bE.cl T.kO (pv 3)) (aA (pv 1) (aA (cP (pv 3) T.bE.cl T.cN.m (mI T) hr.m T.cN.b .nil aV (aA (pv 2) aF)) aF))))) (aE (aM (cn (fS T) T.aP hr (aA (bW eN (bW eN (bW eN (bW eN (bR (aA (aW T.yF) (aA (aW T.JQ) aF))) (pv 5)) (pv 4)) (bR (aA aG aF))) (cf (eA T) T.cM hr aV (aA (pv 0) aF))) (aA (pv 0) aF)))))))),?_⟩
  refine ⟨_,rfl,la,as,l,rfl,hL,hT,hO,fun a st sh H1 s1 na S=>?_⟩
  obtain ⟨dx,hA⟩:=S.obj
  refine ⟨_,rfl,a,dx,_,rfl,hA,rfl,_,rfl,_,rfl,a,st,sh,l,hh,m,rfl,S,_,rfl,a,dx,_,_,rfl,hA,rfl,_,rfl,a,dx,_,_,rfl,hA,rfl,_,st,sh,_,_,rfl,cT.of S.str,cT.of S.shr,rfl,rfl,fun p1 n1=>?_⟩
  generalize e2:a6 H1 p1 _=H2
  have s2:aK H1 H2:=e2▸aK.new n1
  have f2:=e2▸aD (H:=H1) (a:=p1)
  have S2:=S.keep fun b _ o e=>s2 b o e
  have hA2:=s2 _ _ hA
  refine ⟨_,rfl,a,dx,_,_,rfl,hA2,rfl,_,rfl,_,rfl,a,dx,_,rfl,hA2,rfl,_,rfl,a,st,sh,l,m,rfl,S2,(sz 3),fun p2 n2=>?_⟩
  generalize e3:a6 H2 p2 _=H3
  have s3:aK H2 H3:=e3▸aK.new n2
  refine ⟨(sz 2),fun q1 m1=>?_⟩
  generalize e4:a6 H3 q1 _=H4
  have s4:aK H3 H4:=e4▸aK.new m1
  have g3:H4 p2=some _:=s4 _ _ (e3▸aD)
  have g4:H4 q1=some _:=e4▸aD
  refine ⟨_,rfl,q1,p2,_,_,rfl,rfl,.inl g4,.inl g3,(sz 5),fun q2 m2=>?_⟩
  generalize e5:a6 H4 q2 _=H5
  have s5:aK H4 H5:=e5▸aK.new m2
  have g5:H5 q2=some _:=e5▸aD
  have g2:H5 p1=some _:=s5 _ _ (s4 _ _ (s3 _ _ (e2▸aD)))
  refine ⟨_,rfl,q2,p1,_,_,rfl,rfl,.inl g5,.inl g2,?_,fun q3 m3=>?_⟩
  ·rw [length_map,nV,sizeLine_eq];simp
  generalize e6:a6 H5 q3 _=H6
  have s6:aK H5 H6:=e6▸aK.new m3
  refine ⟨(sz 1),fun q4 m4=>?_⟩
  generalize e7:a6 H6 q4 _=H7
  have s7:aK H6 H7:=e7▸aK.new m4
  have g6:H7 q3=some _:=s7 _ _ (e6▸aD)
  have g7:H7 q4=some _:=e7▸aD
  refine ⟨q3,q4,_,_,rfl,rfl,.inl g6,.inl g7,?_,fun q5 m5=>?_⟩
  ·rw [length_append,length_map,nV,sizeLine_eq];simp
  generalize e8:a6 H7 q5 _=H8
  have s8:aK H7 H8:=e8▸aK.new m5
  have u8:aK H H8:=s1.trans (s2.trans (s3.trans (s4.trans (s5.trans (s6.trans (s7.trans s8))))))
  refine ⟨_,rfl,la,as,l,rfl,u8.seq hL,hT.fix u8.fix,hz,fun q6 m6=>?_⟩
  generalize e9:a6 H8 q6 _=H9
  have s9:aK H8 H9:=e9▸aK.new m6
  have g8:H9 q5=some _:=s9 _ _ (e8▸aD)
  have g9:H9 q6=some _:=e9▸aD
  refine ⟨q5,q6,_,_,rfl,rfl,.inl g8,.inl g9,?_,fun q7 m7=>⟨_,rfl,?_⟩⟩
  ·have:(((l.length:Int)::l.flatMap (nums 9)).map V.int).length=gA l+1:=by rw [length_map,length_cons];rfl
   rw [length_append,length_append,length_map,nV,this,sizeLine_eq]
   simp;omega
  rw [CS hh m hf]
  have u9:aK H H9:=u8.trans s9
  have n7:H q7=none:=u9.free m7
  intro p dx' np nd ne
  have e10:=aD (H:=H9) (a:=q7) (o:=.lst ((nums 9 (vpack l (.to hh) m).1).map V.int))
  have t1:q7≠p:=aH e10 np
  have t2:q7≠dx':=aH e10 nd
  have u10:aK H (a6 H9 q7 (.lst ((nums 9 (vpack l (.to hh) m).1).map V.int))):=u9.trans (aK.new m7)
  refine ⟨p,dx',q7,.ref la,(vpack l (.to hh) m).1,rfl,aD,?_,?_,(fun _ _ _ e=>nomatch e),(fun e=>nomatch e),fun H' kp _ hA'=>⟨rfl,q p H' ?_ (u10.free np) hA'⟩⟩
  ·rw [aJ t1,aJ t2];exact e10
  ·exact hf
  ·exact wL u10 n7 np nd fun b o e h1 h2=>kp b o e h1 h2 (fun e=>nomatch e)
end
section
variable {X:Cx}
inductive Rm(t u:TS)(D:vT)(σ:L2.St)(H:Hp):Prop
 | mk:∀ M:L2.St->Hp->Prop,t { D with nx:=M } σ H->(∀ σ' H',M σ' H'->u D σ' H')->Rm t u D σ H
theorem gZ{st:Stmt}{rest:List Stmt}{t u:TS}(h1:PS X st t)(h2:PSs X rest u):PSs X (st::rest) (Rm t u):=by
 intro pins s σ H D I h
 obtain ⟨M,hm,hu⟩:=h
 refine wpAny_execs_cons (eD (h1 pins s σ H { D with nx:=M } I hm) fun f s1 q=>?_)
 cases f with
 | next =>
  obtain ⟨σ',H',I',q⟩:=q
  exact h2 pins s1 σ' H' D I' (hu σ' H' q)
 | ret v=>exact q
 | brk=>exact q
 | cont=>exact q
end
section
variable {P:Program}{w:World}{K:Frag}{mg:Str->Option Value}{base:Heap}
theorem OF{H H1:Hp}{p dx st sh:Addr}{t:bH}(np:H p=none)(nd:H dx=none)(u1:bG [p] (a6 (a6 H dx (.own p)) p (.ins t.fX dx [])) H1)(n1:a6 (a6 H dx (.own p)) p (.ins t.fX dx []) st=none)(n2:a6 (a6 H dx (.own p)) p (.ins t.fX dx []) sh=none) :
 aK H H1/\∀ b∈[p,st,sh],H b=none:=by
 have nh:∀ {b:Addr},a6 (a6 H dx (.own p)) p (.ins t.fX dx []) b=none->H b=none:=fun {b} e=>by
  cases q:H b with
  | none=>rfl
  | some o =>
   rw [aJ (aH q np),aJ (aH q nd),q] at e
   cases e
 refine ⟨fun b o e=>u1 b o (by rw [aJ (aH e np),aJ (aH e nd)];exact e) (by simpa using aH e np),?_⟩
 intro b hb
 simp only [mem_cons,not_mem_nil,or_false] at hb
 rcases hb with rfl|rfl|rfl
 ·exact np
 ·exact nh n1
 ·exact nh n2
theorem sJ{l:List Thing}{i:Nat}{x:Thing}(h:l[i]?=some x):penaltyAt l i=penaltyOf x:=by
 unfold penaltyAt;rw [h];cases x<;>rfl
theorem G3(l:List Thing):penaltyAt l l.length=0:=by
 unfold penaltyAt;rw [List.getElem?_eq_none (Nat.le_refl _)]
inductive B4(t:bH)(K:Frag)(vs:List V)(H:Hp)(Q:VK)(E:XK):Prop
 | mk:∀ (la:Addr) (as:List Addr) (l:List Thing) (h m:Int),vs=[.ref la,.int h,.int m]->cT K H la (as.map V.ref)->aL t H as l->sW l h->(∀ H',aK H H'->Q (.int (uQ h m l)) H')->B4 t K vs H Q E
theorem E5{b:Option (Nat×Int)}(h:decide (fN b<0)=true):b=none:=by
 cases b with
 | none=>rfl
 | some x=>have:=of_decide_eq_true h;simp only [fN] at this;omega
theorem uD{b:Option (Nat×Int)}(h:decide (fN b<0)=false):∃ x,b=some x:=by
 cases b with
 | none=>exact absurd (by decide) (of_decide_eq_false h)
 | some x=>exact ⟨x,rfl⟩
theorem Jy{t:bH}(T:b7 K mg t):bL P w K mg base hJ 5 t.n_.f t.n_.fd ["things","height","greatest_depth"] (B4 t K):=by
 refine T.n_.F.ok dH (fun vs H Q E h=>?_) (fun cdv A outer s H vs Q E hr h=>?_)
 ·obtain ⟨la,as,l,hh,m,rfl,_⟩:=h
  rfl
 ·obtain ⟨la,as,l,hh,m,rfl,hL,hT,C,q⟩:=h
  refine ⟨_,(aB (sv 3 dH.nd (BE T.bE.make (Bi T) hr.m rfl T.bE.g T.bE.b .nil aV)) (aB (sv 4 dH.nd (o7 jV aG)) (aB (sv 5 dH.nd aG) (aB (p7 PassesOwn.never rfl (wN rfl T.D7 (aA (ln T.f_ (pv 0)) aF)) (i8 (i:=6) dH.nd rfl (Or.inl rfl)) (gZ (a_ (c2 (cf (BG T) T.lQ hr aV (aA (pv 0) (aA (pv 6) aF)))) (aB (sv 7 dH.nd (cf (iA T) T.eZ hr aV (aA (ix (pv 0) (pv 6)) aF))) (aB (sv 8 dH.nd (cf (Dt T) T.oY hr aV (aA (pv 3) (aA (pv 1) (aA (pv 2) (aA (pv 7) aF)))))) (aB (a_ (rY (CI (pv 8))) (aE (aM (pv 4))) aR) (gZ (a_ (PW.pt (kX (tc nA (pv 4) aG) (jD (tc pT (pv 8) (pv 5))))) (aB (sv 4 dH.nd (pv 6)) (aE (sv 5 dH.nd (pv 8)))) aR) (aE (a_ (c2 (cf (nS T) T.i4 hr aV (aA (pv 7) aF))) (aE (aM (pv 4))) aR)))))) aR) (aE (bJ (cP (pv 3) T.bE.cl T.c_.m (oQ T) hr.m T.c_.b .nil aV (aA (ix (pv 0) (pv 6)) aF)))))) (aB (sv 8 dH.nd (cf (Dt T) T.oY hr aV (aA (pv 3) (aA (pv 1) (aA (pv 2) (aA aG aF)))))) (gZ (a_ (PW.pt (FN (rY (Qm (pv 8))) (BM (PW.pt (kX (tc nA (pv 4) aG) (jD (tc pT (pv 8) (pv 5)))))))) (aE (sv 4 dH.nd (ln T.f_ (pv 0)))) aR) (aE (aM (pv 4))))))))),?_⟩
  intro p dx np nd ne
  refine ⟨p,dx,rfl,aD,fun st sh H1 u1 n1 n2 S=>⟨rfl,?_⟩⟩
  obtain ⟨s1,fr⟩:=OF np nd u1 n1 n2
  have en:((as.map V.ref).length:Int).toNat=l.length:=by rw [length_map,hT.len];simp
  have hlen:=C.len
  refine ⟨1,rfl,?_⟩
  refine ⟨_,rfl,la,_,rfl,.inl (s1.seq hL),_,rfl,?_,?_,?_⟩
  ·omega
  ·rw [length_map,hT.len];omega
  rw [en]
  refine wM (fun i σ H'=>∃ (b:Option (Nat×Int)) (v6 v7 v8:Option V) (pre:List (Nat×Int)),σ=[some (.ref la),some (.int hh),some (.int m),some (.ref p),some (.int (fN b)),some (.int (lX b)),v6,v7,v8]/\aK H H'/\kN t H' p st sh (l.take i)/\lO hh m l=pre++cZ hh m l i/\b=leastLast pre)
   ⟨none,none,none,none,[],rfl,s1,S,by rw [DL];rfl,rfl⟩ ?_ ?_
  ·rintro i σ H2 hi ⟨b,v6,v7,v8,pre,rfl,s2,S2,epre,eb⟩
   rw [Int.zero_add]
   have hx:l[i]?=some l[i]:=getElem?_eq_getElem hi
   generalize l[i]=x at hx
   obtain ⟨a,ha,hA⟩:=hT.get' hx
   have hL2:=s2.seq hL
   have hA2:=hA.fix s2.fix
   have last:∀ (σ':L2.St) (b':Option (Nat×Int)) (v7 v8:Option V) (pre':List (Nat×Int)),σ'=[some (.ref la),some (.int hh),some (.int m),some (.ref p),some (.int (fN b')),some (.int (lX b')),some (.int (i:Int)),v7,v8]->lO hh m l=pre'++cZ hh m l (i+1)->b'=leastLast pre'->∀ H3,(bG [p,st,sh] H2 H3)->kN t H3 p st sh (l.take i++[x]) →
    ∃ (b:Option (Nat×Int)) (v6 v7 v8:Option V) (pre:List (Nat×Int)),σ'=[some (.ref la),some (.int hh),some (.int m),some (.ref p),some (.int (fN b)),some (.int (lX b)),v6,v7,v8]/\aK H H3/\kN t H3 p st sh (l.take (i+1))/\lO hh m l=pre++cZ hh m l (i+1)/\b=leastLast pre:=by
    intro σ' b' v7 v8 pre' e1 e2 e3 H3 u3 S3
    refine ⟨b',_,v7,v8,pre',e1,?_,?_,e2,e3⟩
    ·exact fun c o e=>u3 c o (s2 c o e) fun mm=>by rw [fr c mm] at e;cases e
    ·rw [List.take_add_one,hx];exact S3
   obtain ⟨dx2,hP2⟩:=S2.obj
   refine ⟨fun σ' H'=>H'=H2/\∃ (b':Option (Nat×Int)) (v7 v8:Option V) (pre':List (Nat×Int)),σ'=[some (.ref la),some (.int hh),some (.int m),some (.ref p),some (.int (fN b')),some (.int (lX b')),some (.int (i:Int)),v7,v8]/\lO hh m l=pre'++cZ hh m l (i+1)/\b'=leastLast pre',?_,?_⟩
   ·refine ⟨_,rfl,_,rfl,la,as,l,i,rfl,hL2,hT.fix s2.fix,hi,_,rfl,aQ (fun z=>?_) fun z=>?_⟩
    ·refine ⟨_,rfl,_,rfl,la,_,_,_,rfl,rfl,hL2,rP ha,a,x,rfl,hA2,?_⟩
     refine ⟨_,rfl,_,rfl,_,rfl,_,rfl,p,st,sh,l.take i,hh,m,_,rfl,S2,C.take i,?_⟩
     have ec:breakCost (fit (l.take i) (hh - (columnSum (l.take i) - columnDepth (l.take i) m))) (penaltyOf x)=costAt hh m l i:=by
      unfold costAt fitAt;rw [sJ hx]
     rw [ec]
     refine ⟨_,rfl,_,rfl,aQ (fun z2=>⟨_,rfl,?_⟩) fun z2=>?_⟩
     ·have e2:=q H2 s2
      unfold uQ at e2
      rw [epre,DM hi z (uM z2),List.append_nil,<-eb] at e2
      exact e2
     obtain ⟨c,hc⟩:=rL z2
     rw [hc]
     have go:=G5 hi z hc
     have forced:isForced l i=decide (penaltyOf x<=-NEVER):=by unfold isForced;rw [sJ hx]
     refine ⟨fun σ' H'=>H'=H2/\∃ b',b'=leastLast (pre++[(i,c)])/\σ'=[some (.ref la),some (.int hh),some (.int m),some (.ref p),some (.int (fN b')),some (.int (lX b')),some (.int (i:Int)),some (.int (penaltyOf x)),some (.int c)],?_,?_⟩
     ·refine ⟨_,rfl,_,_,rfl,rfl,_,rfl,aQ (fun z3=>oB ?_) fun z3=>⟨_,rfl,_,rfl,_,_,rfl,rfl,_,rfl,aQ (fun z4=>?_) fun z4=>?_⟩⟩
      ·have b0:=E5 z3
       refine ⟨_,rfl,_,rfl,rfl,some (i,c),?_,rfl⟩
       rw [iJ,<-eb,b0]
      ·obtain ⟨y,hy⟩:=uD z3
       have z4:=of_decide_eq_true z4
       rw [hy] at z4
       have z4:c<=y.2:=z4
       refine ⟨_,rfl,_,rfl,rfl,some (i,c),?_,rfl⟩
       rw [iJ,<-eb,hy]
       show _=if c<=y.2 then _ else _
       rw [if_pos z4]
      ·obtain ⟨y,hy⟩:=uD z3
       have z4:=of_decide_eq_false z4
       rw [hy] at z4
       have z4:¬ c<=y.2:=z4
       refine ⟨rfl,b,?_,rfl⟩
       rw [iJ,<-eb,hy]
       show _=if c<=y.2 then _ else _
       rw [if_neg z4]
     ·rintro σ' H' ⟨rfl,b',eb',rfl⟩
      refine ⟨_,rfl,_,rfl,_,rfl,aQ (fun z5=>⟨_,rfl,?_⟩) fun z5=>⟨rfl,b',_,_,pre++[(i,c)],rfl,?_,eb'⟩⟩
      ·have e2:=q H' s2
       unfold uQ at e2
       rw [epre,go,forced,if_pos z5,<-eb'] at e2
       exact e2
      ·rw [epre,go,forced,if_neg (by rw [z5];decide)];simp
    ·exact ⟨rfl,b,v7,v8,pre,rfl,by rw [epre,DX hi z],eb⟩
   ·rintro σ' H' ⟨rfl,b',v7,v8,pre',rfl,e2,e3⟩
    refine ⟨_,rfl,p,dx2,_,rfl,hP2,rfl,_,rfl,_,rfl,la,_,_,_,rfl,rfl,hL2,rP ha,p,st,sh,l.take i,a,x,rfl,S2,hA2,Aq (C.sm x (List.mem_of_getElem? hx)),fun H3 u3 S3=>?_⟩
    exact last _ b' v7 v8 pre' rfl e2 e3 H3 u3 S3
  ·rintro σ H2 ⟨b,v6,v7,v8,pre,rfl,s2,S2,epre,eb⟩
   rw [List.take_length] at S2
   rw [E9] at epre
   have ec:breakCost (fit l (hh - (columnSum l - columnDepth l m))) 0=costAt hh m l l.length:=by
    unfold costAt fitAt;rw [G3,List.take_length]
   refine ⟨_,rfl,_,rfl,_,rfl,p,st,sh,l,hh,m,_,rfl,S2,C,?_⟩
   rw [ec]
   have e2:=q H2 s2
   unfold uQ at e2
   rw [epre] at e2
   cases hc:costAt hh m l l.length with
   | none =>
    rw [hc] at e2
    simp only [List.append_nil] at e2
    rw [<-eb] at e2
    refine ⟨fun σ' H'=>H'=H2/\σ'[4]?=some (some (.int (fN b))),⟨_,rfl,_,rfl,aQ (fun z=>by simp [FO] at z) fun z=>⟨rfl,rfl⟩⟩,?_⟩
    rintro σ' H' ⟨rfl,e⟩
    exact ⟨_,e,e2⟩
   | some c =>
    rw [hc] at e2
    simp only [] at e2
    rw [iJ,<-eb] at e2
    refine ⟨fun σ' H'=>H'=H2/\Q (σ'.getD 4 none |>.getD .eX) H2/\∃ v,σ'[4]?=some (some v),⟨_,rfl,_,rfl,aQ (fun z=>⟨_,rfl,_,_,rfl,rfl,_,rfl,aQ (fun z3=>oB ?_) fun z3=>⟨_,rfl,_,rfl,_,_,rfl,rfl,_,rfl,aQ (fun z4=>?_) fun z4=>?_⟩⟩) fun z=>by simp [FO] at z⟩,?_⟩
    ·rw [E5 z3] at e2
     refine ⟨_,rfl,la,_,rfl,.inl (s2.seq hL),rfl,?_,_,rfl⟩
     rw [length_map,hT.len];exact e2
    ·obtain ⟨y,hy⟩:=uD z3
     have z4:=of_decide_eq_true z4
     rw [hy] at z4 e2
     have z4:c<=y.2:=z4
     simp only [] at e2
     rw [if_pos z4] at e2
     refine ⟨_,rfl,la,_,rfl,.inl (s2.seq hL),rfl,?_,_,rfl⟩
     rw [length_map,hT.len];exact e2
    ·obtain ⟨y,hy⟩:=uD z3
     have z4:=of_decide_eq_false z4
     rw [hy] at z4 e2
     have z4:¬ c<=y.2:=z4
     simp only [] at e2
     rw [if_neg z4] at e2
     rw [hy]
     exact ⟨rfl,e2,_,rfl⟩
    ·rintro σ' H' ⟨rfl,e,v,ev⟩
     refine ⟨v,ev,?_⟩
     rw [getD_eq_getElem?_getD,ev] at e
     exact e
inductive Dn(t:bH)(K:Frag)(vs:List V)(H:Hp)(Q:VK)(E:XK):Prop
 | mk:∀ (la tp:Addr) (as:List Addr) (l:List Thing) (ks:List Int) (p:Thing->Bool),vs=[.ref la,.ref tp]->cT K H la (as.map V.ref)->aL t H as l->H tp=some (.tup (ks.map V.int))->(∀ x,inV (.int (kindOf x)) (ks.map V.int)=p x)->Q (.int (l.findIdx p:Nat)) H->Dn t K vs H Q E
theorem Nj(ks:List Int):(ks.map V.int).all Bo=true:=by
 rw [all_eq_true];intro x hx
 obtain ⟨k,_,rfl⟩:=mem_map.mp hx
 rfl
theorem Lk{l:List Thing}{p:Thing->Bool}{k:Nat}{x:Thing}(h:l[k]?=some x)(hp:p x=true)(hn:k<=l.findIdx p):l.findIdx p=k:=by
 obtain ⟨h1,h2⟩:=List.getElem?_eq_some_iff.mp h
 have:l.findIdx p<=k:=by
  refine Nat.le_of_not_lt fun hlt=>?_
  have:=List.not_of_lt_findIdx hlt
  rw [h2,hp] at this;simp at this
 omega
theorem JB{l:List Thing}{p:Thing->Bool}{k:Nat}{x:Thing}(h:l[k]?=some x)(hp:p x=false)(hn:k<=l.findIdx p):k+1<=l.findIdx p:=by
 obtain ⟨h1,h2⟩:=List.getElem?_eq_some_iff.mp h
 rcases Nat.lt_or_ge k (l.findIdx p) with h3|h3
 ·exact h3
 ·have e:l.findIdx p=k:=by omega
  have:=List.findIdx_getElem (p:=p) (xs:=l) (w:=by omega)
  simp only [e] at this
  rw [h2,hp] at this;cases this
theorem v9{t:bH}(T:b7 K mg t):bL P w K mg base hJ 1 t.mJ.f t.mJ.fd ["things","kinds"] (Dn t K):=by
 refine T.mJ.F.ok tX (fun vs H Q E h=>?_) (fun cdv A outer s H vs Q E hr h=>?_)
 ·obtain ⟨la,tp,as,l,ks,p,rfl,_⟩:=h
  rfl
 ·obtain ⟨la,tp,as,l,ks,p,rfl,hL,hT,htp,hp,q⟩:=h
  refine ⟨_,(aB (sv 2 tX.nd aG) (aB (BR PassesOwn.never (PW.pt (FN (tc nA (pv 2) (ln T.f_ (pv 0))) (BM (BY Bw (fZ T.aP.cl T.bS thK (ix (pv 0) (pv 2))) (pv 1) (by with_unfolding_all rfl))))) (aE (L1 (i:=2) tX.nd rfl (Or.inl rfl) aG CF))) (aE (aM (pv 2))))),?_⟩
  refine ⟨fun m σ H'=>H'=H/\∃ k:Nat,k+m=l.length/\k<=l.findIdx p/\σ=[some (.ref la),some (.ref tp),some (.int (k:Int))],⟨l.length,rfl,0,by omega,Nat.zero_le _,rfl⟩,?_⟩
  rintro m σ H' ⟨rfl,k,hk,hkp,rfl⟩
  refine ⟨_,rfl,_,rfl,la,_,rfl,.inl hL,_,_,rfl,rfl,_,rfl,aQ (fun z=>?_) fun z=>NR ?_⟩
  ·have hlt:k<l.length:=by
    have:=of_decide_eq_true z
    rw [length_map,hT.len] at this
    omega
   have hx:l[k]?=some l[k]:=getElem?_eq_getElem hlt
   generalize l[k]=x at hx
   obtain ⟨a,ha,hA⟩:=hT.get' hx
   refine ⟨_,rfl,_,rfl,la,_,_,_,rfl,rfl,hL,rP ha,a,x,rfl,hA,_,rfl,tp,_,rfl,.inr (SqT.of htp),rfl,Nj ks,_,rfl,?_⟩
   rw [hp x]
   refine aQ (fun z2=>?_) fun z2=>⟨_,rfl,?_⟩
   ·have z2:p x=false:=by simpa using z2
    refine ⟨fun σ' H''=>∃ m'<m,H''=H'/\∃ k:Nat,k+m'=l.length/\k<=l.findIdx p/\σ'=[some (.ref la),some (.ref tp),some (.int (k:Int))],fun _ _ h=>h,?_⟩
    exact ⟨_,rfl,_,_,rfl,rfl,m - 1,by omega,rfl,k+1,by omega,JB hx z2 hkp,rfl⟩
   ·have z2:p x=true:=by simpa using z2
    rw [Lk hx z2 hkp] at q
    exact q
  ·have hge:k=l.length:=by
    have:=of_decide_eq_false z
    rw [length_map,hT.len] at this
    omega
   have:l.findIdx p=k:=by have:=List.findIdx_le_length (p:=p) (xs:=l);omega
   rw [this] at q
   exact ⟨_,rfl,q⟩
theorem MT(x:Thing):inV (.int (kindOf x)) ([6,5,10].map V.int)=holds x:=by cases x<;>rfl
theorem Pq(x:Thing):inV (.int (kindOf x)) ([6,5].map V.int)=cV x:=by cases x<;>rfl
theorem Ef{l:List Thing}{p:Thing->Bool}:decide (((l.findIdx p:Nat):Int)<(l.length:Int))=l.any p:=by
 have:(l.findIdx p<l.length)↔l.any p=true:=by rw [List.findIdx_lt_length,List.any_eq_true]
 cases h:l.any p with
 | true=>rw [decide_eq_true_eq];have:=this.mpr h;omega
 | false=>rw [decide_eq_false_iff_not];intro hh;have:=this.mp (by omega);rw [h] at this;cases this
inductive qV(t:bH)(K:Frag)(vs:List V)(H:Hp)(Q:VK)(E:XK):Prop
 | mk:∀ (la:Addr) (as:List Addr) (l:List Thing),vs=[.ref la]->cT K H la (as.map V.ref)->aL t H as l->(∀ H',aK H H'->Q (.bl (l.any holds)) H')->qV t K vs H Q E
theorem qR{t:bH}(T:b7 K mg t):bL P w K mg base hJ 2 t.fV.f t.fV.fd ["things"] (qV t K):=by
 refine T.fV.F.ok Cb (fun vs H Q E h=>?_) (fun cdv A outer s H vs Q E hr h=>?_)
 ·obtain ⟨la,as,l,rfl,_⟩:=h
  rfl
 ·obtain ⟨la,as,l,rfl,hL,hT,q⟩:=h
  refine ⟨_,(aE (aM (ec nA (cf (v9 T) T.mJ hr aV (aA (pv 0) (aA (pG (aA (aW T.yF) (aA (aW T.Ah) (aA (aW T.kC) aF)))) aF))) (ln T.f_ (pv 0))))),?_⟩
  refine ⟨_,rfl,(sz 3),fun tp ntp=>?_⟩
  have s1:∀ o,aK H (a6 H tp o):=fun o=>aK.new ntp
  refine ⟨la,tp,as,l,[6,5,10],holds,rfl,(s1 _).seq hL,hT.fix (s1 _).fix,aD,MT,_,rfl,la,_,rfl,.inl ((s1 _).seq hL),_,_,rfl,rfl,?_⟩
  show Q (.bl (decide (((l.findIdx holds:Nat):Int)<((as.map V.ref).length:Int)))) _
  rw [length_map,hT.len,Ef]
  exact q _ (s1 _)
inductive FT(t:bH)(K:Frag)(vs:List V)(H:Hp)(Q:VK)(E:XK):Prop
 | mk:∀ (lb gl:Addr) (bs:List Addr) (l:List Thing) (g:Glue),vs=[.ref lb,.ref gl]->cT K H lb (bs.map V.ref)->aL t H bs l->Rd H gl (.lst (eU g))->l.length<=1000000->(∀ p cs H',aK H H'->H p=none->H' p=some (.lst (cs.map V.ref))->aL t H' cs (eC g l)->Q (.ref p) H')->FT t K vs H Q E
theorem Ee(xs:List V)(j:Nat)(hj:j<=xs.length):jB xs none (some (j:Int))=xs.take j:=by
 unfold jB
 rw [HT.By,HT.pZ,Nat.min_eq_left hj,List.drop_zero,Nat.sub_zero]
theorem w6(xs:List V)(i:Nat):jB xs (some (i:Int)) none=xs.drop i:=by
 unfold jB
 rw [HT.By,HT.pZ]
 rcases Nat.le_total i xs.length with h|h
 ·rw [Nat.min_eq_left h,List.take_of_length_le (by rw [length_drop];omega)]
 ·rw [Nat.min_eq_right h,List.drop_of_length_le (Nat.le_refl _),List.drop_of_length_le h];simp
theorem Du{l:List Thing}{i:Nat}{x:Thing}{p:Thing->Bool}(h:l[i]?=some x):(l.take (i+1)).filter p=(l.take i).filter p++if p x=true then [x] else []:=by
 rw [List.take_add_one,h,List.filter_append]
 congr 1
 by_cases hp:p x=true
 ·simp [hp]
 ·simp [hp]
theorem Nq{g:Glue}{l:List Thing}(h:l.findIdx holds≠l.length):eC g l=topped g ((l.take (l.findIdx holds)).filter (fun t=>!dropped t)++l.drop (l.findIdx holds)):=by
 unfold eC
 have:l.any holds=true:=by
  rw [<-Ef,decide_eq_true_eq]
  have:=List.findIdx_le_length (p:=holds) (xs:=l);omega
 rw [if_pos this,FQ]
theorem Mf{t:bH}(T:b7 K mg t):bL P w K mg base hJ 6 t.wV.f t.wV.fd ["behind","glue"] (FT t K):=by
 refine T.wV.F.ok lM (fun vs H Q E h=>?_) (fun cdv A outer s H vs Q E hr h=>?_)
 ·obtain ⟨lb,gl,bs,l,g,rfl,_⟩:=h
  rfl
 ·obtain ⟨lb,gl,bs,l,g,rfl,hL,hT,hG,hlen,q⟩:=h
  refine ⟨_,(aB (sv 2 lM.nd (cf (v9 T) T.mJ hr aV (aA (pv 0) (aA (pG (aA (aW T.yF) (aA (aW T.Ah) (aA (aW T.kC) aF)))) aF)))) (aB (a_ (tc bY (pv 2) (ln T.f_ (pv 0))) (aE (aM (bR aF))) aR) (aB (sv 3 lM.nd (bW eN (QB (own:=[("thing",5)]) rfl lM.nd (wQ (eF gB (pv 0) lS (dM (pv 2)))) (show Dk Ig (aI Cr) _ _ from FV (by decide +kernel)) (fun _ _ _ _ _=>i8 (i:=5) lM.nd rfl (Or.inl rfl)) (fun _ _ _ _ _=>(Mo (jC (c2 (cf (qA T) T.iO hr aV (aA (pv 5) aF)))))) (fun _ _ _ _ _=>(pv 5))) (eF gB (pv 0) (dM (pv 2)) lS))) (aB (sv 4 lM.nd (cf (v9 T) T.mJ hr aV (aA (pv 3) (aA (pG (aA (aW T.yF) (aA (aW T.Ah) aF))) aF)))) (aB (a_ (tc bY (pv 4) (ln T.f_ (pv 3))) (aE (aM (pv 3))) aR) (aE (aM (bW eN (bW eN (eF gB (pv 3) lS (dM (pv 4))) (bR (aA (cf (xS T) T.jS hr aV (aA (pv 1) (aA (ix (pv 3) (pv 4)) aF))) aF))) (eF gB (pv 3) (dM (pv 4)) lS))))))))),?_⟩
  refine ⟨_,rfl,(sz 3),fun tp ntp=>?_⟩
  generalize e1:a6 H tp _=H1
  have s1:aK H H1:=e1▸aK.new ntp
  refine ⟨lb,tp,bs,l,[6,5,10],holds,rfl,s1.seq hL,hT.fix s1.fix,e1▸aD,MT,?_⟩
  have hle:=List.findIdx_le_length (p:=holds) (xs:=l)
  generalize ek:l.findIdx holds=k at hle
  refine ⟨_,rfl,_,rfl,lb,_,rfl,.inl (s1.seq hL),rfl,_,rfl,?_⟩
  rw [a8,length_map,hT.len]
  refine aQ (fun z=>?_) fun z=>?_
  ·have z:(k:Int)=l.length:=of_decide_eq_true z
   refine ⟨Nat.zero_le _,fun p np=>q p [] _ (s1.trans (aK.new np)) (s1.free np) aD ?_⟩
   have:eC g l=[]:=by
    unfold eC
    rw [if_neg]
    rw [<-Ef,ek,decide_eq_true_eq];omega
   rw [this];exact aL.nil
  have z:¬ (k:Int)=l.length:=of_decide_eq_false z
  have hbl:(bs.map V.ref).length=l.length:=by rw [length_map,hT.len]
  refine ⟨_,rfl,_,rfl,_,rfl,lb,_,rfl,s1.seq hL,fun l2 n2=>?_⟩
  rw [Ee _ _ (by rw [hbl];omega)]
  generalize e2:a6 H1 l2 _=H2
  have s2:aK H1 H2:=e2▸aK.new n2
  have f2:H2 l2=some (.lst ((bs.map V.ref).take k)):=e2▸aD
  have u2:aK H H2:=s1.trans s2
  refine ⟨l2,rfl,⟨_,cT.of f2⟩,fun D nD=>?_⟩
  refine Mu (K:=K) (a:=l2) (xs:=(bs.map V.ref).take k) (fun i H'=>∃ cs:List Addr,H'=a6 H2 D (.lst (cs.map V.ref))/\aL t H' cs ((l.take i).filter fun x=>!dropped x)/\cs.length<=i)
   ⟨[],rfl,aL.nil,Nat.le_refl _⟩ (fun i H' _ ⟨cs,e,_⟩=>by rw [e];exact (aK.new nD).seq (cT.of f2)) ?_ ?_
  ·rintro i y H' hi ⟨cs,rfl,hC,hcl⟩
   have hik:i<k:=by
    have:=(List.getElem?_eq_some_iff.mp hi).1
    rw [length_take] at this;omega
   rw [List.getElem?_take,if_pos hik] at hi
   obtain ⟨a,ha,rfl⟩:=wR hi
   obtain ⟨x,hx,hA⟩:=hT.get ha
   have sD:∀ o,aK H2 (a6 H2 D o):=fun o=>aK.new nD
   refine ⟨rfl,_,rfl,a,x,rfl,(hA.fix u2.fix).fix (sD _).fix,_,rfl,aQ (fun z2=>⟨_,rfl,_,aD,?_,cs++[a],?_,?_,?_⟩) fun z2=>⟨cs,rfl,?_,by omega⟩⟩
   ·rw [length_map,sizeLine_eq];omega
   ·rw [bU,map_append];rfl
   ·rw [Du hx,if_pos z2,bU]
    refine aL.append (hC.fix ?_) (aL.one ?_)
    ·exact fun b o c e=>by
      by_cases hb:b=D
      ·subst hb;rw [aD] at e;cases e;exact absurd c kY
      ·rw [aJ hb] at e ⊢;exact e
    ·exact (hA.fix u2.fix).fix (sD _).fix
   ·rw [length_append];simp;omega
   ·rw [Du hx,if_neg (by rw [z2];decide),List.append_nil];exact hC
  rintro H3 ⟨cs,e3,hC,hcl⟩
  have hk':(List.take k (bs.map V.ref)).length=k:=by rw [length_take,hbl];omega
  rw [hk'] at hC hcl
  have s3:aK H2 H3:=e3▸aK.new nD
  have f3:H3 D=some (.lst (cs.map V.ref)):=e3▸aD
  have u3:aK H H3:=u2.trans s3
  refine ⟨_,rfl,_,rfl,_,rfl,lb,_,rfl,u3.seq hL,fun l4 n4=>?_⟩
  rw [w6]
  generalize e4:a6 H3 l4 _=H4
  have s4:aK H3 H4:=e4▸aK.new n4
  have f4:H4 l4=some (.lst ((bs.map V.ref).drop k)):=e4▸aD
  refine ⟨D,l4,_,_,rfl,rfl,.inl (s4 _ _ f3),.inl f4,?_,fun l5 n5=>?_⟩
  ·rw [length_map,length_drop,hbl,sizeLine_eq];omega
  rw [<-List.map_drop,<-map_append]
  generalize e5:a6 H4 l5 _=H5
  have s5:aK H4 H5:=e5▸aK.new n5
  have f5:H5 l5=some (.lst ((cs++bs.drop k).map V.ref)):=e5▸aD
  have u4:aK H H4:=u3.trans s4
  have u5:aK H H5:=u4.trans s5
  have hR:aL t H5 (cs++bs.drop k) ((l.take k).filter (fun x=>!dropped x)++l.drop k):=aL.append (hC.fix (s4.trans s5).fix) ((hT.drop k).fix u5.fix)
  have er:=Nq (g:=g) (l:=l) (by rw [ek];omega)
  rw [ek] at er
  generalize eR:(l.take k).filter (fun x=>!dropped x)++l.drop k=R at hR er
  have hrl:R.length<=2000000:=by
   rw [<-hR.len,length_append,length_drop,hT.len];omega
  refine ⟨_,rfl,(sz 2),fun tq ntq=>?_⟩
  generalize e6:a6 H5 tq _=H6
  have s6:aK H5 H6:=e6▸aK.new ntq
  have f6:H6 l5=some (.lst ((cs++bs.drop k).map V.ref)):=s6 _ _ f5
  refine ⟨l5,tq,_,R,[6,5],cV,rfl,cT.of f6,hR.fix s6.fix,e6▸aD,Pq,?_⟩
  have u6:aK H H6:=u5.trans s6
  have hle2:=List.findIdx_le_length (p:=cV) (xs:=R)
  rw [Hw] at er
  generalize ej:R.findIdx cV=j at hle2 er
  have n5':H l5=none:=u4.free n5
  refine ⟨_,rfl,_,rfl,l5,_,rfl,.inl (cT.of f6),rfl,_,rfl,?_⟩
  rw [a8,length_map,hR.len]
  refine aQ (fun z2=>?_) fun z2=>?_
  ·have z2:(j:Int)=R.length:=of_decide_eq_true z2
   refine ⟨_,rfl,q l5 _ _ u6 n5' f6 ?_⟩
   rw [er,if_pos (by omega)]
   exact hR.fix s6.fix
  have z2:¬ (j:Int)=R.length:=of_decide_eq_false z2
  have hjl:j<R.length:=by omega
  rw [if_neg (by omega)] at er
  have hx:R[j]?=some R[j]:=getElem?_eq_getElem hjl
  have hs:cV R[j]=true:=by
   have:=List.findIdx_getElem (p:=cV) (xs:=R) (w:=by omega)
   simp only [ej] at this
   exact this
  have eg:R.getD j (.kern 0)=R[j]:=by rw [getD_eq_getElem?_getD,hx];rfl
  rw [eg] at er
  generalize R[j]=x at hx hs er
  have hR6:=hR.fix (t:=t) s6.fix
  obtain ⟨a,ha,hA⟩:=hR6.get' hx
  have hal:((cs++bs.drop k).map V.ref).length=R.length:=by rw [length_map,hR.len]
  refine ⟨_,rfl,_,rfl,_,rfl,l5,_,rfl,cT.of f6,fun l7 n7=>?_⟩
  rw [Ee _ _ (by rw [hal];omega)]
  generalize e7:a6 H6 l7 _=H7
  have s7:aK H6 H7:=e7▸aK.new n7
  have f7:H7 l7=some _:=e7▸aD
  refine ⟨_,rfl,_,rfl,_,rfl,l5,_,_,_,rfl,rfl,cT.of (s7 _ _ f6),rP ha,gl,g,a,x,rfl,(u6.trans s7).rd hG,hA.fix s7.fix,hs,fun pg H8 s8 n8 hg8=>?_⟩
  refine ⟨(sz 1),fun l9 n9=>?_⟩
  generalize e9:a6 H8 l9 _=H9
  have s9:aK H8 H9:=e9▸aK.new n9
  have f9:H9 l9=some _:=e9▸aD
  refine ⟨l7,l9,_,_,rfl,rfl,.inl (s9 _ _ (s8 _ _ f7)),.inl f9,?_,fun l10 n10=>?_⟩
  ·rw [length_take,hal,sizeLine_eq];show _+1<=_;omega
  generalize e10:a6 H9 l10 _=H10
  have s10:aK H9 H10:=e10▸aK.new n10
  have f10:H10 l10=some _:=e10▸aD
  have v10:aK H6 H10:=s7.trans (s8.trans (s9.trans s10))
  refine ⟨_,rfl,_,rfl,_,rfl,l5,_,rfl,cT.of (v10 _ _ f6),fun l11 n11=>?_⟩
  rw [w6]
  generalize e11:a6 H10 l11 _=H11
  have s11:aK H10 H11:=e11▸aK.new n11
  have f11:H11 l11=some _:=e11▸aD
  refine ⟨l10,l11,_,_,rfl,rfl,.inl (s11 _ _ f10),.inl f11,?_,fun l12 n12=>?_⟩
  ·rw [length_append,length_take,length_drop,hal,sizeLine_eq];show _+1+_<=_;omega
  have u11:aK H H11:=u6.trans (v10.trans s11)
  have s12:∀ o,aK H11 (a6 H11 l12 o):=fun o=>aK.new n12
  refine q l12 ((cs++bs.drop k).take j++[pg]++(cs++bs.drop k).drop j) _ (u11.trans (s12 _)) (u11.free n12) ?_ ?_
  ·rw [aD];simp [List.map_take,List.map_drop]
  ·have w12:∀ o,aK H6 (a6 H11 l12 o):=fun o=>(v10.trans s11).trans (s12 o)
   have er':eC g l=R.take j++[above g x]++R.drop j:=by rw [er];simp
   rw [er']
   refine aL.append (aL.append ((hR6.take j).fix (w12 _).fix) (aL.one (hg8.fix ((s9.trans (s10.trans s11)).trans (s12 _)).fix))) ((hR6.drop j).fix (w12 _).fix)
inductive xX(t:bH)(K:Frag)(vs:List V)(H:Hp)(Q:VK)(E:XK):Prop
 | mk:∀ (la gl:Addr) (as:List Addr) (l:List Thing) (h m:Int) (g:Glue),vs=[.ref la,.int h,.int m,.ref gl]->cT K H la (as.map V.ref)->aL t H as l->Rd H gl (.lst (eU g))->sW l h->l.length<=1000000->(∀ H',aK H H'->(CC h m g l=none->Q .eX H')/\∀ u k r,CC h m g l=some (u,k,r)->∀ (a dx ul rl:Addr) (us rs:List Addr),H' a=some (.ins t.rG dx (Pl ul k rl))->H ul=none->H rl=none->ul≠rl->H' ul=some (.lst (us.map V.ref))->H' rl=some (.lst (rs.map V.ref))->aL t H' us u->aL t H' rs r->Q (.ref a) H')->xX t K vs H Q E
theorem Rf{h m:Int}{l:List Thing}{x:Nat×Int}(e:leastLast (lO h m l)=some x):x.1<=l.length:=by
 have h1:=sN (p8 e)
 unfold cutBreaks at h1
 rw [mem_append] at h1
 rcases h1 with h1|h1
 ·have:=(List.mem_filter.mp h1).1
  rw [List.mem_range] at this;omega
 ·simp at h1;omega
theorem GU{t:bH}(T:b7 K mg t):bL P w K mg base hJ 7 t.lR.f t.lR.fd ["things","height","greatest_depth","glue"] (xX t K):=by
 refine T.lR.F.ok lU (fun vs H Q E h=>?_) (fun cdv A outer s H vs Q E hr h=>?_)
 ·obtain ⟨la,gl,as,l,hh,m,g,rfl,_⟩:=h
  rfl
 ·obtain ⟨la,gl,as,l,hh,m,g,rfl,hL,hT,hG,C,hlen,q⟩:=h
  refine ⟨_,(aB (sv 4 lU.nd (cf (Jy T) T.n_ hr aV (aA (pv 0) (aA (pv 1) (aA (pv 2) aF))))) (aB (a_ (tc nA (pv 4) aG) (aE (aM Co)) aR) (aB (sv 5 lU.nd (eF gB (pv 0) lS (dM (pv 4)))) (aB (sv 6 lU.nd (cf (Mf T) T.wV hr aV (aA (eF gB (pv 0) (dM (bW iK (pv 4) aG)) lS) (aA (pv 3) aF)))) (aB (a_ (PW.pt (kX (tc bY (ln T.f_ (pv 6)) aG) (jD (jC (c2 (cf (qR T) T.fV hr aV (aA (pv 5) aF))))))) (aE (aM Co)) aR) (aE (aM (cn (Jr T) T.fD hr (aA (pv 5) (aA (cf (iA T) T.eZ hr aV (aA (ix (pv 0) (pv 4)) aF)) (aA (pv 6) aF))))))))))),?_⟩
  refine ⟨_,rfl,_,rfl,_,rfl,la,as,l,hh,m,rfl,hL,hT,C,fun H1 s1=>?_⟩
  unfold uQ
  refine ⟨_,rfl,_,_,rfl,rfl,_,rfl,aQ (fun z=>?_) fun z=>?_⟩
  ·exact (q H1 s1).1 (by unfold CC;rw [E5 z])
  obtain ⟨x,hx⟩:=uD z
  rw [hx]
  have hle:=Rf hx
  have hbl:(as.map V.ref).length=l.length:=by rw [length_map,hT.len]
  refine ⟨_,rfl,_,rfl,_,rfl,la,_,rfl,s1.seq hL,fun l2 n2=>?_⟩
  rw [show fN (some x)=((x.1:Nat):Int) from rfl,Ee _ _ (by rw [hbl];omega),<-List.map_take]
  generalize e2:a6 H1 l2 _=H2
  have s2:aK H1 H2:=e2▸aK.new n2
  have f2:H2 l2=some _:=e2▸aD
  have u2:aK H H2:=s1.trans s2
  refine ⟨_,rfl,_,rfl,_,_,rfl,rfl,_,rfl,la,_,rfl,u2.seq hL,fun l3 n3=>?_⟩
  rw [show ((x.1:Nat):Int)+1=((x.1+1:Nat):Int) from rfl,w6,<-List.map_drop]
  generalize e3:a6 H2 l3 _=H3
  have s3:aK H2 H3:=e3▸aK.new n3
  have f3:H3 l3=some _:=e3▸aD
  have u3:aK H H3:=u2.trans s3
  refine ⟨_,rfl,l3,gl,as.drop (x.1+1),l.drop (x.1+1),g,rfl,cT.of f3,(hT.drop _).fix u3.fix,u3.rd hG,by rw [length_drop];omega,fun p cs H4 s4 np f4 hC=>?_⟩
  have em:CC hh m g l=if (eC g (l.drop (x.1+1))).isEmpty=true\/(l.take x.1).any holds=false then none else some (l.take x.1,penaltyAt l x.1,eC g (l.drop (x.1+1))):=by unfold CC;rw [hx]
  generalize eR:eC g (l.drop (x.1+1))=R at hC em
  have hRe:R.isEmpty=decide (R.length=0):=by cases R<;>simp
  have u4:aK H H4:=u3.trans s4
  have f2':=s4 _ _ (s3 _ _ f2)
  refine ⟨_,rfl,p,_,rfl,.inl (cT.of f4),rfl,_,rfl,aQ (fun z2=>oB ?_) fun z2=>?_⟩
  ·rw [a8,length_map,hC.len,decide_eq_true_eq] at z2
   refine (q H4 u4).1 ?_
   rw [em,if_pos (.inl (by rw [hRe,decide_eq_true_eq];omega))]
  rw [a8,length_map,hC.len,decide_eq_false_iff_not] at z2
  refine ⟨_,rfl,l2,as.take x.1,l.take x.1,rfl,cT.of f2',(hT.take _).fix u4.fix,fun H5 s5=>⟨_,rfl,aQ (fun z3=>?_) fun z3=>?_⟩⟩
  ·refine (q H5 (u4.trans s5)).1 ?_
   rw [em,if_pos (.inr (by simpa using z3))]
  have u5:aK H H5:=u4.trans s5
  have z3:(l.take x.1).any holds=true:=by simpa using z3
  have em2:CC hh m g l=some (l.take x.1,penaltyAt l x.1,R):=by
   rw [em,if_neg]
   rintro (h|h)
   ·rw [hRe,decide_eq_true_eq] at h;omega
   ·rw [z3] at h;cases h
  have hlt:x.1<l.length:=by
   rcases Nat.lt_or_ge x.1 l.length with h|h
   ·exact h
   ·exfalso
    have:l.drop (x.1+1)=[]:=List.drop_of_length_le (by omega)
    rw [this] at eR
    have:R=[]:=by rw [<-eR];rfl
    rw [this] at z2;simp at z2
  have hy:l[x.1]?=some l[x.1]:=getElem?_eq_getElem hlt
  generalize l[x.1]=y at hy
  obtain ⟨a,ha,hA⟩:=hT.get' hy
  refine ⟨_,rfl,_,rfl,_,rfl,la,_,_,_,rfl,rfl,u5.seq hL,rP ha,a,y,rfl,hA.fix u5.fix,_,rfl,?_⟩
  intro pp dx npp nd ne
  refine ⟨pp,dx,l2,p,_,rfl,aD,rfl,?_⟩
  have sd:aK H5 (a6 (a6 (a6 H5 dx (.own pp)) pp (.ins t.rG dx [])) pp (.ins t.rG dx (Pl l2 (penaltyOf y) p))):=by
   rw [bU]
   exact (aK.new nd).trans (aK.new (by rw [aJ (Ne.symm ne)];exact npp))
  have f4':=s5 _ _ f4
  have n2':H l2=none:=s1.free n2
  have np':H p=none:=u3.free np
  refine (q _ (u5.trans sd)).2 _ _ _ em2 pp dx l2 p (as.take x.1) cs ?_ n2' np' ?_ ?_ ?_ ?_ ?_
  ·rw [aD,sJ hy]
  ·exact aH (s3 _ _ f2) np
  ·exact sd _ _ (s5 _ _ f2')
  ·exact sd _ _ f4'
  ·exact (hT.take _).fix (u5.trans sd).fix
  ·exact hC.fix (s5.trans sd).fix
def SJ(h m:Int)(tl:Addr):List (Str×V):=[("height",.int h),("max_depth",.int m),("top",.ref tl)]
def kI(t:bH)(H:Hp)(a:Addr)(s:SgPage.Style):Prop:=∃ dx tl,H a=some (.ins t.iB dx (SJ s.height s.most tl))/\Fz H tl (eU s.top)
def SV(sl:Addr)(f m:Int)(l:Bool):List (Str×V):=[("skip",.ref sl),("factor",.int f),("most",.int m),("late",.bl l)]
def iE(t:bH)(H:Hp)(a:Addr)(k:Class):Prop:=∃ dx sl,H a=some (.ins t.b5 dx (SV sl k.factor k.most k.late))/\Fz H sl (eU k.skip)
theorem kI.fix{t:bH}{H H1:Hp}{a:Addr}{s:SgPage.Style}(h:kI t H a s)(f:iV t H H1):kI t H1 a s:=by
 obtain ⟨dx,tl,e,z⟩:=h
 exact ⟨dx,tl,f _ _ (.inr (.inr ⟨_,_,_,rfl,.inr (.inl ⟨rfl,rfl⟩)⟩)) e,z.fix f⟩
theorem iE.fix{t:bH}{H H1:Hp}{a:Addr}{s:Class}(h:iE t H a s)(f:iV t H H1):iE t H1 a s:=by
 obtain ⟨dx,tl,e,z⟩:=h
 exact ⟨dx,tl,f _ _ (.inr (.inr ⟨_,_,_,rfl,.inr (.inr ⟨rfl,rfl⟩)⟩)) e,z.fix f⟩
inductive zD(t:bH)(K:Frag)(vs:List V)(H:Hp)(Q:VK)(E:XK):Prop
 | mk:∀ (p dx tl:Addr) (h m:Int) (g:Glue),vs=[.ref p,.int h,.int m,.ref tl]->H p=some (.ins t.iB dx [])->H tl=some (.lst (eU g))->(∀ H',bG [p,tl] H H'->(∀ cs,kI t H' p ⟨h,m,g,cs⟩)->Q .eX H')->zD t K vs H Q E
theorem yL{t:bH}(T:b7 K mg t):bL P w K mg base hJ 1 t.dF.f t.dF.fd ["self","height","max_depth","top"] (zD t K):=by
 refine T.dF.F.ok Gz (fun vs H Q E h=>?_) (fun cdv A outer s H vs Q E hr h=>?_)
 ·obtain ⟨p,dx,tl,hh,m,g,rfl,_⟩:=h
  rfl
 ·obtain ⟨p,dx,tl,hh,m,g,rfl,hp,hl,q⟩:=h
  refine ⟨_,aB (IX (bT T.dF.cl T.tD (pv 0) (pv 1))) (aB (bT T.dF.cl T.jP (pv 0) (pv 2)) (aE (bT T.dF.cl T.AS (pv 0) (pv 3)))),?_⟩
  have n1:p≠tl:=cX hp hl nofun
  refine ⟨tl,_,hl,trivial,fun od=>?_⟩
  refine ⟨_,rfl,_,rfl,p,dx,_,rfl,(aJ n1).trans hp,sm 0,_,rfl,_,rfl,p,dx,_,rfl,aD,sm 1,?_⟩
  rw [bU]
  refine ⟨_,rfl,_,rfl,p,dx,_,rfl,aD,sm 2,?_⟩
  rw [bU]
  refine q _ ((bG.chg (by simp)).trans (bG.chg (by simp))) fun cs=>⟨dx,tl,aD,od,?_⟩
  rw [aJ (Ne.symm n1),aD]
inductive oK(t:bH)(K:Frag)(vs:List V)(H:Hp)(Q:VK)(E:XK):Prop
 | mk:∀ (p dx tl:Addr) (k:Class),vs=[.ref p,.ref tl,.int k.factor,.int k.most,.bl k.late]->H p=some (.ins t.b5 dx [])->H tl=some (.lst (eU k.skip))->(∀ H',bG [p,tl] H H'->iE t H' p k->Q .eX H')->oK t K vs H Q E
theorem pA{t:bH}(T:b7 K mg t):bL P w K mg base hJ 1 t.bK.f t.bK.fd ["self","skip","factor","most","late"] (oK t K):=by
 refine T.bK.F.ok Ai (fun vs H Q E h=>?_) (fun cdv A outer s H vs Q E hr h=>?_)
 ·obtain ⟨p,dx,tl,k,rfl,_⟩:=h
  rfl
 ·obtain ⟨p,dx,tl,k,rfl,hp,hl,q⟩:=h
  refine ⟨_,aB (IX (bT T.bK.cl T.jU (pv 0) (pv 1))) (aB (bT T.bK.cl T.d5 (pv 0) (pv 2)) (aB (bT T.bK.cl T.jX (pv 0) (pv 3)) (aE (bT T.bK.cl T.oN (pv 0) (pv 4))))),?_⟩
  have n1:p≠tl:=cX hp hl nofun
  refine ⟨tl,_,hl,trivial,fun od=>?_⟩
  refine ⟨_,rfl,_,rfl,p,dx,_,rfl,(aJ n1).trans hp,sm 0,_,rfl,_,rfl,p,dx,_,rfl,aD,sm 1,?_⟩
  rw [bU]
  refine ⟨_,rfl,_,rfl,p,dx,_,rfl,aD,sm 2,?_⟩
  rw [bU]
  refine ⟨_,rfl,_,rfl,p,dx,_,rfl,aD,sm 3,?_⟩
  rw [bU]
  refine q _ ((bG.chg (by simp)).trans (bG.chg (by simp))) ⟨dx,tl,aD,od,?_⟩
  rw [aJ (Ne.symm n1),aD]
theorem Cn{H H1 H2:Hp}{p dx tl C:Addr}(s1:aK H H1)(h1:H tl=none)(np:H1 p=none)(nd:H1 dx=none)(u:bG [p,tl] (a6 (a6 H1 dx (.own p)) p (.ins C dx [])) H2):aK H H2:=by
 intro b o e
 have e1:=s1 b o e
 have n1:b≠p:=aH e1 np
 have n2:b≠dx:=aH e1 nd
 refine u b o (by rw [aJ n1,aJ n2];exact e1) ?_
 simp only [mem_cons,not_mem_nil,or_false,not_or]
 exact ⟨n1,aH e h1⟩
inductive uB(t:bH)(K:Frag)(vs:List V)(H:Hp)(Q:VK)(E:XK):Prop
 | mk:vs=[]->(∀ p H',aK H H'->H p=none->(∀ cs,kI t H' p ⟨0,0,noSize,cs⟩)->Q (.ref p) H')->uB t K vs H Q E
theorem ES{t:bH}(T:b7 K mg t):bL P w K mg base hJ 3 t.j5.f t.j5.fd [] (uB t K):=by
 refine T.j5.F.ok Fx (fun vs H Q E h=>?_) (fun cdv A outer s H vs Q E hr h=>?_)
 ·obtain ⟨rfl,_⟩:=h
  rfl
 ·obtain ⟨rfl,q⟩:=h
  refine ⟨_,(aE (aM (cn (yL T) T.dF hr (aA aG (aA aG (aA (bR (aA aG (aA aG (aA aG (aA aG (aA aG aF)))))) aF)))))),?_⟩
  refine ⟨(sz 5),fun l1 n1=>?_⟩
  intro p dx np nd ne
  have e1:=aD (H:=H) (a:=l1) (o:=.lst (eU noSize))
  refine ⟨p,dx,l1,0,0,noSize,rfl,aD,?_,fun H' u S=>⟨rfl,q p H' (Cn (aK.new n1) n1 np nd u) ((aK.new n1).free np) S⟩⟩
  rw [aJ (aH e1 np),aJ (aH e1 nd)];exact e1
def ck(c:Nat):fY:=.inl (c:Int)
structure EF(t:bH)(H:Hp)(kvs:List (fY×V))(s:SgPage.Style):Prop where
 at_:∀ c:Nat,∀ v,eM kvs (ck c)=some v->∃ a,v=.ref a/\iE t H a (classOf s c)
 no:∀ c:Nat,eM kvs (ck c)=none->classOf s c=plainClass
def Dp(t:bH)(H:Hp)(cl:Addr)(s:SgPage.Style):Prop:=∃ kvs,H cl=some (.dK kvs)/\EF t H kvs s
theorem EF.fix{t:bH}{H H1:Hp}{kvs:List (fY×V)}{s:SgPage.Style}(h:EF t H kvs s)(f:iV t H H1):EF t H1 kvs s :=
 ⟨fun c v e=>let ⟨a,e1,e2⟩:=h.at_ c v e;⟨a,e1,e2.fix f⟩,h.no⟩
inductive uF(t:bH)(K:Frag)(vs:List V)(H:Hp)(Q:VK)(E:XK):Prop
 | mk:∀ (cl:Addr) (c:Nat) (s:SgPage.Style),vs=[.ref cl,.int (c:Int)]->Dp t H cl s->(∀ p H',aK H H'->iE t H' p (classOf s c)->Q (.ref p) H')->uF t K vs H Q E
theorem E1{t:bH}(T:b7 K mg t):bL P w K mg base hJ 3 t.j4.f t.j4.fd ["told","number"] (uF t K):=by
 refine T.j4.F.ok EH (fun vs H Q E h=>?_) (fun cdv A outer s H vs Q E hr h=>?_)
 ·obtain ⟨cl,c,s,rfl,_⟩:=h
  rfl
 ·obtain ⟨cl,c,bC,rfl,⟨kvs,hd,D⟩,q⟩:=h
  refine ⟨_,(aB (a_ (rY (Rr (Dl hr) (pv 1) (pv 0))) (aE (aM (D_ (Dl hr) (pv 0) (pv 1) (fun _ _=>rfl)))) aR) (aE (aM (cn (pA T) T.bK hr (aA (bR (aA aG (aA aG (aA aG (aA aG (aA aG aF)))))) (aA aG (aA (aW T.qQ) (aA mG aF)))))))),?_⟩
  refine ⟨_,rfl,_,rfl,cl,_,rfl,As.k (k:=ck c) hd,_,rfl,aQ (fun z=>?_) fun z=>?_⟩
  ·obtain ⟨v,hv⟩:=Option.isSome_iff_exists.mp z
   obtain ⟨a,rfl,hA⟩:=D.at_ c v hv
   refine ⟨_,rfl,_,rfl,cl,.ref a,rfl,hv▸As.k (k:=ck c) hd,q a H (fun _ _ e=>e) hA⟩
  ·have hn:eM kvs (ck c)=none:=by
    cases e:eM kvs (ck c) with
    | none=>rfl
    | some v=>rw [e] at z;cases z
   refine ⟨(sz 5),fun l1 n1=>?_⟩
   intro p dx np nd ne
   have e1:=aD (H:=H) (a:=l1) (o:=.lst (eU noSize))
   refine ⟨p,dx,l1,plainClass,rfl,aD,?_,fun H' u S=>⟨rfl,q p H' (Cn (aK.new n1) n1 np nd u) ?_⟩⟩
   ·rw [aJ (aH e1 np),aJ (aH e1 nd)];exact e1
   ·rw [D.no c hn];exact S
def shF(tl:Addr)(h:Int)(c:Bool):List (Str×V):=[("things",.ref tl),("height",.int h),("closed",.bl c)]
def kW(t:bH)(H:Hp)(sa tl:Addr)(o:OnPage):Prop:=∃ dx as,H sa=some (.ins t.iC dx (shF tl o.high o.closed))/\H tl=some (.lst (as.map V.ref))/\aL t H as o.things
inductive xV(t:bH)(K:Frag)(vs:List V)(H:Hp)(Q:VK)(E:XK):Prop
 | mk:∀ (p dx:Addr),vs=[.ref p]->H p=some (.ins t.iC dx [])->(∀ H' tl,bG [p] H H'->H tl=none->(∀ c,kW t H' p tl ⟨c,[],0,false⟩)->Q .eX H')->xV t K vs H Q E
theorem GK{t:bH}(T:b7 K mg t):bL P w K mg base hJ 1 t.bV.f t.bV.fd ["self"] (xV t K):=by
 refine T.bV.F.ok GG (fun vs H Q E h=>?_) (fun cdv A outer s H vs Q E hr h=>?_)
 ·obtain ⟨p,dx,rfl,_⟩:=h
  rfl
 ·obtain ⟨p,dx,rfl,hp,q⟩:=h
  refine ⟨_,(aB (bT T.bV.cl T.eB (pv 0) (bR aF)) (aB (bT T.bV.cl T.jL (pv 0) aG) (aE (bT T.bV.cl T.fF (pv 0) mG)))),?_⟩
  refine ⟨Nat.zero_le _,fun tl ntl=>?_⟩
  have n1:p≠tl:=aH hp ntl
  refine ⟨_,rfl,p,dx,_,rfl,(aJ n1).trans hp,sm 0,_,rfl,p,dx,_,rfl,aD,sm 1,?_⟩
  rw [bU]
  refine ⟨_,rfl,p,dx,_,rfl,aD,sm 2,?_⟩
  rw [bU]
  refine q _ tl (fun b o e hb=>?_) ntl fun c=>⟨dx,[],aD,?_,aL.nil⟩
  ·rw [aJ (by simpa using hb),aJ (aH e ntl)];exact e
  ·rw [aJ (Ne.symm n1),aD];rfl
structure Pa where
 a:Addr
 dx:Addr
 str:Addr
 th:Addr
 nL:Addr
 wt:Addr
 cs:List (Nat×Addr×Addr)
def Pa.fp(g:Pa):List Addr:=g.a::g.str::g.th::g.nL::g.wt::g.cs.map fun x=>x.2.1
def pgF(bC cl:Addr)(goal total depth:Int)(str:Addr)(shrink:Int)(th:Addr)(bg hs:Bool)(nL:Addr)(extra:Int)(wt:Addr):List (Str×V) :=
 [("style",.ref bC),("classes",.ref cl),("goal",.int goal),("total",.int total),("depth",.int depth),("stretches",.ref str),("shrink",.int shrink),("things",.ref th),("begun",.bl bg),("has_solid",.bl hs),("shares",.ref nL),("extra",.int extra),("waiting",.ref wt)]
def Pa.tls(g:Pa):List Addr:=g.cs.map fun x=>x.2.2
def fJ(cs:List (Nat×Addr×Addr)):List (fY×V):=cs.map fun x=>(ck x.1,.ref x.2.1)
structure a9(t:bH)(H:Hp)(s:SgPage.Style)(p:Sofar)(bC cl:Addr)(bg hs:Bool)(g:Pa):Prop where
 obj:H g.a=some (.ins t.cW g.dx (pgF bC cl p.goal p.sum p.depth g.str p.shrink g.th bg hs g.nL p.extra g.wt))
 vW:H g.str=some (.lst (p.stretch.map V.int))
 st4:p.stretch.length=4
 oth:∃ as,H g.th=some (.lst (as.map V.ref))/\aL t H as p.things
 owt:∃ as,H g.wt=some (.lst (as.map V.ref))/\aL t H as p.waiting
 p9:H g.nL=some (.dK (fJ g.cs))
 sh:∀ x∈g.cs,kW t H x.2.1 x.2.2 (a7 p x.1)
 cov:∀ o∈p.classes,o.cls∈g.cs.map (·.1)
 ndc:(g.cs.map (·.1)).Nodup
 n1:g.str≠g.th
 n2:g.str≠g.wt
 n3:g.th≠g.wt
 n4:∀ x∈g.cs,x.2.2≠g.str/\x.2.2≠g.th/\x.2.2≠g.wt
 n5:∀ x∈g.cs,∀ y∈g.cs,x.1≠y.1->x.2.1≠y.2.1
 bC:kI t H bC s
 cls:Dp t H cl s
 ncl:cl≠g.nL
def g_(g g':Pa)(H H':Hp):Prop:=g'.a=g.a/\(∀ b o,H b=some o->b∉g.fp->H' b=some o)/\(∀ b∈g'.fp,b∈g.fp\/H b=none)/\∀ b∈g'.tls,b∈g.tls\/b∈g.fp\/H b=none
theorem g_.refl{g:Pa}{H:Hp}:g_ g g H H:=⟨rfl,fun _ _ e _=>e,fun _ h=>.inl h,fun _ h=>.inl h⟩
theorem g_.trans{g g1 g2:Pa}{H H1 H2:Hp}(x:g_ g g1 H H1)(y:g_ g1 g2 H1 H2):g_ g g2 H H2:=by
 have back:∀ b,H1 b=none->b∈g.fp\/H b=none:=fun b h=>by
  by_cases hg:b∈g.fp
  ·exact .inl hg
  ·refine .inr ?_
   cases e:H b with
   | none=>rfl
   | some o=>rw [x.2.1 b o e hg] at h;cases h
 refine ⟨y.1.trans x.1,fun b o e n=>?_,fun b hb=>?_,fun b hb=>?_⟩
 ·have e1:=x.2.1 b o e n
  refine y.2.1 b o e1 fun hb=>?_
  rcases x.2.2.1 b hb with h|h
  ·exact n h
  ·rw [h] at e;cases e
 ·rcases y.2.2.1 b hb with h|h
  ·exact x.2.2.1 b h
  ·exact back b h
 ·rcases y.2.2.2 b hb with h|h|h
  ·exact x.2.2.2 b h
  ·exact .inr (x.2.2.1 b h)
  ·exact .inr (back b h)
theorem g_.of_same{g:Pa}{H H':Hp}(s:aK H H'):g_ g g H H':=⟨rfl,fun b o e _=>s b o e,fun _ h=>.inl h,fun _ h=>.inl h⟩
theorem g_.chg{g:Pa}{H:Hp}{b:Addr}{o:HO}(hb:b∈g.fp):g_ g g H (a6 H b o):=⟨rfl,fun c u e n=>by rw [aJ (fun (z:c=b)=>n (by rw [z];exact hb))];exact e,fun _ h=>.inl h,fun _ h=>.inl h⟩
theorem g_.over{g g':Pa}{H0 H H':Hp}(x:g_ g g' H H')(s:aK H0 H)(f:∀ b∈g.fp,H0 b=none):aK H0 H'/\∀ b∈g'.fp,H0 b=none:=by
 refine ⟨fun b o e=>x.2.1 b o (s b o e) fun hb=>(by rw [f b hb] at e;cases e),fun b hb=>?_⟩
 rcases x.2.2.1 b hb with h|h
 ·exact f b h
 ·exact s.free h
theorem b7.JL{t:bH}(T:b7 K mg t){dx:Addr}{fs:List (Str×V)}:¬ oU t (.ins t.cW dx fs):=CJ (Ne.symm T.Gi) (Ne.symm T.zB) (Ne.symm T.Aj)
theorem b7.vL{t:bH}(T:b7 K mg t){dx:Addr}{fs:List (Str×V)}:¬ oU t (.ins t.iC dx fs):=CJ (Ne.symm T.FG) (Ne.symm T.Fd) (Ne.symm T.xI)
section
variable {t:bH}(T:b7 K mg t){H H':Hp}{s:SgPage.Style}{p p2:Sofar}{bC cl:Addr}{bg hs bg2 hs2:Bool}{g:Pa}
include T
theorem a9.nc(A:a9 t H s p bC cl bg hs g):∀ b∈g.fp,∀ o,H b=some o->¬ oU t o:=by
 intro b hb o e
 simp only [Pa.fp,mem_cons,mem_map] at hb
 rcases hb with rfl|rfl|rfl|rfl|rfl|⟨x,hx,rfl⟩
 ·rw [A.obj] at e;cases e;exact T.JL
 ·rw [A.vW] at e;cases e;exact kY
 ·obtain ⟨as,h,_⟩:=A.oth;rw [h] at e;cases e;exact kY
 ·rw [A.p9] at e;cases e;exact K_
 ·obtain ⟨as,h,_⟩:=A.owt;rw [h] at e;cases e;exact kY
 ·obtain ⟨dx,as,h,_⟩:=A.sh x hx;rw [h] at e;cases e;exact T.vL
theorem a9.fix(A:a9 t H s p bC cl bg hs g){g':Pa}(f:g_ g g' H H'):iV t H H':=fun b o c e=>f.2.1 b o e fun hb=>A.nc T b hb o e c
omit T in
theorem a9.same(A:a9 t H s p bC cl bg hs g)(x:aK H H'):a9 t H' s p bC cl bg hs g:=by
 obtain ⟨as,h1,h2⟩:=A.oth
 obtain ⟨bs,h3,h4⟩:=A.owt
 obtain ⟨kvs,h5,h6⟩:=A.cls
 refine ⟨x _ _ A.obj,x _ _ A.vW,A.st4,⟨as,x _ _ h1,h2.fix x.fix⟩,⟨bs,x _ _ h3,h4.fix x.fix⟩,x _ _ A.p9,fun y hy=>?_,A.cov,A.ndc,A.n1,A.n2,A.n3,A.n4,A.n5,A.bC.fix x.fix,⟨kvs,x _ _ h5,h6.fix x.fix⟩,A.ncl⟩
 obtain ⟨dx,cs,h7,h8,h9⟩:=A.sh y hy
 exact ⟨dx,cs,x _ _ h7,x _ _ h8,h9.fix x.fix⟩
theorem a9.nums(A:a9 t H s p bC cl bg hs g)(e1:p2.stretch=p.stretch)(e2:p2.things=p.things)(e3:p2.waiting=p.waiting)(e4:p2.classes=p.classes) :
 a9 t (a6 H g.a (.ins t.cW g.dx (pgF bC cl p2.goal p2.sum p2.depth g.str p2.shrink g.th bg2 hs2 g.nL p2.extra g.wt))) s p2 bC cl bg2 hs2 g:=by
 obtain ⟨as,h1,h2⟩:=A.oth
 obtain ⟨bs,h3,h4⟩:=A.owt
 obtain ⟨kvs,h5,h6⟩:=A.cls
 have x:∀ o,iV t H (a6 H g.a o):=fun o=>iV.chg A.obj T.JL
 have k:∀ {b:Addr} {o u:HO},H b=some o->(∀ dx fs,o≠.ins t.cW dx fs)->a6 H g.a u b=some o:=fun e n=>by rw [aJ (fun z=>by subst z;rw [A.obj] at e;cases e;exact n _ _ rfl)];exact e
 have eo:∀ c,a7 p2 c=a7 p c:=fun c=>by unfold a7 classOn;rw [e4]
 refine ⟨aD,?_,by rw [e1];exact A.st4,⟨as,k h1 nofun,?_⟩,⟨bs,k h3 nofun,?_⟩,k A.p9 nofun,fun y hy=>?_,by rw [e4];exact A.cov,A.ndc,A.n1,A.n2,A.n3,A.n4,A.n5,A.bC.fix (x _),⟨kvs,k h5 nofun,h6.fix (x _)⟩,A.ncl⟩
 ·rw [e1];exact k A.vW nofun
 ·rw [e2];exact h2.fix (x _)
 ·rw [e3];exact h4.fix (x _)
 ·obtain ⟨dx,cs,h7,h8,h9⟩:=A.sh y hy
  rw [eo]
  exact ⟨dx,cs,k h7 (fun _ _ z=>T.yP (HO.ins.inj z).1),k h8 nofun,h9.fix (x _)⟩
omit T in
theorem eP:g.a∈g.fp/\g.str∈g.fp/\g.th∈g.fp/\g.nL∈g.fp/\g.wt∈g.fp:=by simp [Pa.fp]
theorem a9.list(A:a9 t H s p bC cl bg hs g){b:Addr}{xs ys:List V}(hb:H b=some (.lst xs))(hn:b=g.str\/b=g.th\/b=g.wt)
 (e1:if b=g.str then p2.stretch.map V.int=ys/\p2.stretch.length=4 else p2.stretch=p.stretch) (e2:if b=g.th then ∃ as,ys=as.map V.ref/\aL t H as p2.things else p2.things=p.things) (e3:if b=g.wt then ∃ as,ys=as.map V.ref/\aL t H as p2.waiting else p2.waiting=p.waiting)
 (e4:p2.classes=p.classes) (e5:p2.goal=p.goal) (e6:p2.sum=p.sum) (e7:p2.depth=p.depth) (e8:p2.shrink=p.shrink) (e9:p2.extra=p.extra) :
 a9 t (a6 H b (.lst ys)) s p2 bC cl bg hs g:=by
 obtain ⟨as,h1,h2⟩:=A.oth
 obtain ⟨bs,h3,h4⟩:=A.owt
 obtain ⟨kvs,h5,h6⟩:=A.cls
 have x:∀ o,iV t H (a6 H b o):=fun o=>iV.chg hb kY
 have k:∀ {c:Addr} {o u:HO},H c=some o->(∀ xs,o≠.lst xs)->a6 H b u c=some o:=fun e n=>by rw [aJ (fun z=>by subst z;rw [hb] at e;cases e;exact n _ rfl)];exact e
 have eo:∀ c,a7 p2 c=a7 p c:=fun c=>by unfold a7 classOn;rw [e4]
 refine ⟨?_,?_,?_,?_,?_,k A.p9 nofun,fun y hy=>?_,by rw [e4];exact A.cov,A.ndc,A.n1,A.n2,A.n3,A.n4,A.n5,A.bC.fix (x _),⟨kvs,k h5 nofun,h6.fix (x _)⟩,A.ncl⟩
 ·rw [e5,e6,e7,e8,e9];exact k A.obj nofun
 ·by_cases q:b=g.str
  ·rw [if_pos q] at e1;rw [e1.1,q,aD]
  ·rw [if_neg q] at e1;rw [e1,aJ (Ne.symm q)];exact A.vW
 ·by_cases q:b=g.str
  ·rw [if_pos q] at e1;exact e1.2
  ·rw [if_neg q] at e1;rw [e1];exact A.st4
 ·by_cases q:b=g.th
  ·rw [if_pos q] at e2
   obtain ⟨cs,z1,z2⟩:=e2
   exact ⟨cs,by rw [q,aD,z1],z2.fix (x _)⟩
  ·rw [if_neg q] at e2
   exact ⟨as,by rw [aJ (Ne.symm q)];exact h1,by rw [e2];exact h2.fix (x _)⟩
 ·by_cases q:b=g.wt
  ·rw [if_pos q] at e3
   obtain ⟨cs,z1,z2⟩:=e3
   exact ⟨cs,by rw [q,aD,z1],z2.fix (x _)⟩
  ·rw [if_neg q] at e3
   exact ⟨bs,by rw [aJ (Ne.symm q)];exact h3,by rw [e3];exact h4.fix (x _)⟩
 ·obtain ⟨dx,cs,h7,h8,h9⟩:=A.sh y hy
  rw [eo]
  refine ⟨dx,cs,k h7 nofun,?_,h9.fix (x _)⟩
  rw [aJ]
  ·exact h8
  ·obtain ⟨z1,z2,z3⟩:=A.n4 y hy
   rcases hn with q|q|q<;>rw [q]<;>assumption
theorem a9.share(A:a9 t H s p bC cl bg hs g){c:Nat}{sa tl tl':Addr}{o':OnPage}(hx:(c,sa,tl)∈g.cs)(kp:∀ b o,H b=some o->b≠sa->H' b=some o)(hs':kW t H' sa tl' o')(ht:tl'=tl\/H tl'=none)
 (eo:a7 p2 c=o') (en:∀ d,d≠c->a7 p2 d=a7 p d) (ec:∀ o∈p2.classes,o.cls=c\/∃ o2∈p.classes,o2.cls=o.cls)
 (e1:p2.stretch=p.stretch) (e2:p2.things=p.things) (e3:p2.waiting=p.waiting) (e5:p2.goal=p.goal) (e6:p2.sum=p.sum) (e7:p2.depth=p.depth) (e8:p2.shrink=p.shrink) (e9:p2.extra=p.extra) :
 a9 t H' s p2 bC cl bg hs { g with cs:=g.cs.map fun y=>if y.1=c then (c,sa,tl') else y }/\g_ g { g with cs:=g.cs.map fun y=>if y.1=c then (c,sa,tl') else y } H H'/\(c,sa,tl')∈g.cs.map fun y=>if y.1=c then (c,sa,tl') else y:=by
 obtain ⟨dx0,as0,q1,q2,q3⟩:=A.sh _ hx
 have sac:∀ y∈g.cs,y.1=c->y=(c,sa,tl):=by
  intro y hy e
  have:∀ (l:List (Nat×Addr×Addr)),(l.map (·.1)).Nodup->(c,sa,tl)∈l->y∈l->y=(c,sa,tl):=by
   intro l
   induction l with
   | nil=>intro _ h;cases h
   | cons z r ih =>
    intro hn h1 h2
    rw [map_cons,List.nodup_cons] at hn
    rcases mem_cons.mp h1 with h1|h1<;>rcases mem_cons.mp h2 with h2|h2
    ·rw [h1,h2]
    ·exact absurd (mem_map.mpr ⟨y,h2,by rw [e,<-h1]⟩) hn.1
    ·exact absurd (mem_map.mpr ⟨_,h1,by rw [<-h2,e]⟩) hn.1
    ·exact ih hn.2 h1 h2
  exact this g.cs A.ndc hx hy
 have x:iV t H H':=fun b o cc e=>kp b o e fun z=>by subst z;rw [q1] at e;cases e;exact T.vL cc
 have kk:∀ {b:Addr} {o:HO},H b=some o->(∀ dx fs,o≠.ins t.iC dx fs)->H' b=some o:=fun e n=>kp _ _ e fun z=>by subst z;rw [q1] at e;cases e;exact n _ _ rfl
 have mm:∀ y∈g.cs.map (fun y=>if y.1=c then (c,sa,tl') else y),y=(c,sa,tl')\/(y∈g.cs/\y.1≠c):=by
  intro y hy
  obtain ⟨z,hz,rfl⟩:=mem_map.mp hy
  by_cases q:z.1=c
  ·rw [if_pos q];exact .inl rfl
  ·rw [if_neg q];exact .inr ⟨hz,q⟩
 have m1:(g.cs.map fun y=>if y.1=c then (c,sa,tl') else y).map (·.1)=g.cs.map (·.1):=by
  rw [List.map_map]
  refine List.map_congr_left fun y hy=>?_
  show (if y.1=c then (c,sa,tl') else y).1=y.1
  by_cases q:y.1=c
  ·rw [if_pos q];exact q.symm
  ·rw [if_neg q]
 have m2:(g.cs.map fun y=>if y.1=c then (c,sa,tl') else y).map (fun x=>x.2.1)=g.cs.map (fun x=>x.2.1):=by
  rw [List.map_map]
  refine List.map_congr_left fun y hy=>?_
  show (if y.1=c then (c,sa,tl') else y).2.1=y.2.1
  by_cases q:y.1=c
  ·rw [if_pos q,sac y hy q]
  ·rw [if_neg q]
 have m3:fJ (g.cs.map fun y=>if y.1=c then (c,sa,tl') else y)=fJ g.cs:=by
  unfold fJ
  rw [List.map_map]
  refine List.map_congr_left fun y hy=>?_
  show (ck (if y.1=c then (c,sa,tl') else y).1,V.ref (if y.1=c then (c,sa,tl') else y).2.1)=_
  by_cases q:y.1=c
  ·rw [if_pos q,sac y hy q]
  ·rw [if_neg q]
 obtain ⟨as,h1,h2⟩:=A.oth
 obtain ⟨bs,h3,h4⟩:=A.owt
 obtain ⟨kvs,h5,h6⟩:=A.cls
 have efp:Pa.fp { g with cs:=g.cs.map fun y=>if y.1=c then (c,sa,tl') else y }=g.fp:=by
  show _::_::_::_::_::List.map _ _=_
  rw [m2];rfl
 have hsa:sa∈g.fp:=by
  unfold Pa.fp
  simp only [mem_cons,mem_map]
  exact .inr (.inr (.inr (.inr (.inr ⟨_,hx,rfl⟩))))
 refine ⟨⟨?_,?_,by rw [e1];exact A.st4,⟨as,kk h1 nofun,by rw [e2];exact h2.fix x⟩,⟨bs,kk h3 nofun,by rw [e3];exact h4.fix x⟩,?_,fun y hy=>?_,fun o ho=>?_,?_,A.n1,A.n2,A.n3,fun y hy=>?_,fun y hy z hz hyz=>?_,A.bC.fix x,⟨kvs,kk h5 nofun,h6.fix x⟩,A.ncl⟩,⟨rfl,fun b o e n=>kp b o e fun z=>n (z▸hsa),fun b hb=>.inl (by rw [efp] at hb;exact hb),fun b hb=>?_⟩,?_⟩
 ·rw [e5,e6,e7,e8,e9];exact kk A.obj (fun _ _ z=>T.yP (HO.ins.inj z).1.symm)
 ·rw [e1];exact kk A.vW nofun
 ·show H' g.nL=_;rw [m3];exact kk A.p9 nofun
 ·rcases mm y hy with rfl|⟨hy,hc⟩
  ·show kW t H' sa tl' (a7 p2 c);rw [eo];exact hs'
  ·rw [en _ hc]
   obtain ⟨dx,cs,h7,h8,h9⟩:=A.sh y hy
   exact ⟨dx,cs,kp _ _ h7 (A.n5 y hy _ hx hc),kk h8 nofun,h9.fix x⟩
 ·show o.cls∈List.map _ (List.map _ _)
  rw [m1]
  rcases ec o ho with h|⟨o2,h8,h9⟩
  ·rw [h];exact mem_map.mpr ⟨_,hx,rfl⟩
  ·rw [<-h9];exact A.cov o2 h8
 ·show (List.map _ (List.map _ _)).Nodup;rw [m1];exact A.ndc
 ·rcases mm y hy with rfl|⟨hy,hc⟩
  ·rcases ht with rfl|h
   ·exact A.n4 _ hx
   ·exact ⟨Ne.symm (aH A.vW h),Ne.symm (aH h1 h),Ne.symm (aH h3 h)⟩
  ·exact A.n4 y hy
 ·rcases mm y hy with rfl|⟨hy,hc⟩<;>rcases mm z hz with rfl|⟨hz,hd⟩
  ·exact absurd rfl hyz
  ·exact A.n5 _ hx z hz hyz
  ·exact A.n5 y hy (c,sa,tl) hx hyz
  ·exact A.n5 y hy z hz hyz
 ·obtain ⟨y,hy,rfl⟩:=mem_map.mp hb
  rcases mm y hy with rfl|⟨hy,hc⟩
  ·rcases ht with rfl|h
   ·exact .inl (mem_map.mpr ⟨_,hx,rfl⟩)
   ·exact .inr (.inr h)
  ·exact .inl (mem_map.mpr ⟨y,hy,rfl⟩)
 ·exact mem_map.mpr ⟨_,hx,by simp⟩
omit T in
theorem a9.has(A:a9 t H s p bC cl bg hs g){b:Addr}(hb:b∈g.fp):∃ o,H b=some o:=by
 simp only [Pa.fp,mem_cons,mem_map] at hb
 rcases hb with rfl|rfl|rfl|rfl|rfl|⟨x,hx,rfl⟩
 ·exact ⟨_,A.obj⟩
 ·exact ⟨_,A.vW⟩
 ·obtain ⟨as,h,_⟩:=A.oth;exact ⟨_,h⟩
 ·exact ⟨_,A.p9⟩
 ·obtain ⟨as,h,_⟩:=A.owt;exact ⟨_,h⟩
 ·obtain ⟨dx,as,h,_⟩:=A.sh x hx;exact ⟨_,h⟩
omit T in
theorem a9.S6(A:a9 t H s p bC cl bg hs g){b:Addr}(hb:b∈g.tls):∃ o,H b=some o:=by
 obtain ⟨x,hx,rfl⟩:=mem_map.mp hb
 obtain ⟨dx,as,_,h,_⟩:=A.sh x hx
 exact ⟨_,h⟩
omit T in
theorem a9.new(A:a9 t H s p bC cl bg hs g){b:Addr}(h:H b=none):b∉g.fp/\b∉g.tls :=
 ⟨fun hb=>(by obtain ⟨o,e⟩:=A.has hb;rw [h] at e;cases e),fun hb=>(by obtain ⟨o,e⟩:=A.S6 hb;rw [h] at e;cases e)⟩
theorem a9.fC(A:a9 t H s p bC cl bg hs g){b:Addr}{xs:List V}(hb:H b=some (.lst xs))(u:bG [b] H H')(h1:b∉g.fp)(h2:b∉g.tls):a9 t H' s p bC cl bg hs g:=by
 have x:iV t H H':=u.fix fun c hc o e=>by simp at hc;subst hc;rw [hb] at e;cases e;exact kY
 have k:∀ {c:Addr} {o:HO},c∈g.fp->H c=some o->H' c=some o:=fun hc e=>u _ _ e (by simp;exact fun z=>h1 (z▸hc))
 obtain ⟨as,q1,q2⟩:=A.oth
 obtain ⟨bs,q3,q4⟩:=A.owt
 obtain ⟨kvs,q5,q6⟩:=A.cls
 obtain ⟨m1,m2,m3,m4,m5⟩:=eP (g:=g)
 refine ⟨k m1 A.obj,k m2 A.vW,A.st4,⟨as,k m3 q1,q2.fix x⟩,⟨bs,k m5 q3,q4.fix x⟩,k m4 A.p9,fun y hy=>?_,A.cov,A.ndc,A.n1,A.n2,A.n3,A.n4,A.n5,A.bC.fix x,⟨kvs,u _ _ q5 ?_,q6.fix x⟩,A.ncl⟩
 ·obtain ⟨dx,cs,q7,q8,q9⟩:=A.sh y hy
  refine ⟨dx,cs,k ?_ q7,u _ _ q8 ?_,q9.fix x⟩
  ·unfold Pa.fp
   simp only [mem_cons,mem_map]
   exact .inr (.inr (.inr (.inr (.inr ⟨_,hy,rfl⟩))))
  ·simp;exact fun z=>h2 (mem_map.mpr ⟨y,hy,z⟩)
 ·simp;exact cX q5 hb nofun
theorem a9.part(A:a9 t H s p bC cl bg hs g){b dx:Addr}{fs:List (Str×V)}(h:H b=some (.ins t.rG dx fs)):b∉g.fp:=by
 intro hb
 simp only [Pa.fp,mem_cons,mem_map] at hb
 rcases hb with rfl|rfl|rfl|rfl|rfl|⟨x,hx,rfl⟩
 ·rw [A.obj] at h;exact T.IC (HO.ins.inj (Option.some.inj h)).1.symm
 ·rw [A.vW] at h;cases h
 ·obtain ⟨as,e,_⟩:=A.oth;rw [e] at h;cases h
 ·rw [A.p9] at h;cases h
 ·obtain ⟨as,e,_⟩:=A.owt;rw [e] at h;cases h
 ·obtain ⟨dx,as,e,_⟩:=A.sh x hx;rw [e] at h;exact T.GP (HO.ins.inj (Option.some.inj h)).1.symm
end
end
section
variable {P:Program}{w:World}{K:Frag}{mg:Str->Option Value}{base:Heap}
inductive Bq(t:bH)(K:Frag)(vs:List V)(H:Hp)(Q:VK)(E:XK):Prop
 | mk:∀ (a dx bC cl:Addr) (s:SgPage.Style),vs=[.ref a,.ref bC,.ref cl]->H a=some (.ins t.cW dx [])->kI t H bC s->Dp t H cl s->(∀ H' (g:Pa),g.a=a->bG [a] H H'->(∀ b∈g.fp,b=a\/H b=none)->g.cs=[]->a9 t H' s (fresh s) bC cl false false g->Q .eX H')->Bq t K vs H Q E
theorem Bf{t:bH}(T:b7 K mg t):bL P w K mg base hJ 1 t.aO.f t.aO.fd ["self","style","classes"] (Bq t K):=by
 refine T.aO.F.ok Jb (fun vs H Q E h=>?_) (fun cdv A outer s H vs Q E hr h=>?_)
 ·obtain ⟨a,dx,bC,cl,s,rfl,_⟩:=h
  rfl
 ·obtain ⟨a,dx,bC,cl,S,rfl,hp,hS,hC,q⟩:=h
  refine ⟨_,(aB (bT T.aO.cl T.qJ (pv 0) (pv 1)) (aB (bT T.aO.cl T.sT (pv 0) (pv 2)) (aB (bT T.aO.cl T.gY (pv 0) (aZ T.dF.cl T.tD (pv 1))) (aB (bT T.aO.cl T.fU (pv 0) aG) (aB (bT T.aO.cl T.eQ (pv 0) aG) (aB (bT T.aO.cl T.kP (pv 0) (bR (aA aG (aA aG (aA aG (aA aG aF)))))) (aB (bT T.aO.cl T.oZ (pv 0) aG) (aB (bT T.aO.cl T.iU (pv 0) (bR aF)) (aB (bT T.aO.cl T.jG (pv 0) mG) (aB (bT T.aO.cl T.iI (pv 0) mG) (aB (bT T.aO.cl T.iS (pv 0) Br) (aB (bT T.aO.cl T.jJ (pv 0) aG) (aE (bT T.aO.cl T.jM (pv 0) (bR aF))))))))))))))),?_⟩
  obtain ⟨sdx,tl,hs1,hs2⟩:=id hS
  have nsa:bC≠a:=fun z=>by rw [z,hp] at hs1;exact T.zB (HO.ins.inj (Option.some.inj hs1)).1.symm
  refine ⟨_,rfl,_,rfl,a,dx,_,rfl,hp,sm 0,_,rfl,_,rfl,a,dx,_,rfl,aD,sm 1,?_⟩
  rw [bU]
  refine ⟨_,rfl,bC,sdx,_,_,rfl,(aJ nsa).trans hs1,rfl,_,rfl,a,dx,_,rfl,aD,sm 2,?_⟩
  rw [bU]
  refine ⟨_,rfl,a,dx,_,rfl,aD,sm 3,?_⟩
  rw [bU]
  refine ⟨_,rfl,a,dx,_,rfl,aD,sm 4,?_⟩
  rw [bU]
  generalize eH1:a6 H a _=H1
  have u1:bG [a] H H1:=eH1▸bG.chg (by simp)
  have ea1:H1 a=some _:=eH1▸aD
  have fr1:∀ b,H1 b=none->H b=none:=fun b e=>by
   cases z:H b with
   | none=>rfl
   | some o=>rw [u1 b o z (by intro m;simp at m;subst m;rw [ea1] at e;cases e)] at e;cases e
  refine ⟨(sz 4),fun str nstr=>⟨_,rfl,a,dx,_,rfl,aK.new nstr _ _ ea1,sm 5,?_⟩⟩
  refine ⟨_,rfl,a,dx,_,rfl,aD,sm 6,?_⟩
  rw [bU]
  generalize eH2:a6 (a6 H1 str _) a _=H2
  have na1:str≠a:=Ne.symm (aH ea1 nstr)
  have u2:bG [a] H1 H2:=eH2▸(aK.new nstr).fC.trans (bG.chg (by simp))
  have ea2:H2 a=some _:=eH2▸aD
  have es2:H2 str=some (.lst [.int 0,.int 0,.int 0,.int 0]):=by rw [<-eH2,aJ na1,aD]
  have fr2:∀ b,H2 b=none->H1 b=none:=fun b e=>by
   cases z:H1 b with
   | none=>rfl
   | some o=>rw [u2 b o z (by intro m;simp at m;subst m;rw [ea2] at e;cases e)] at e;cases e
  refine ⟨Nat.zero_le _,fun th nth=>⟨_,rfl,a,dx,_,rfl,aK.new nth _ _ ea2,sm 7,?_⟩⟩
  refine ⟨_,rfl,a,dx,_,rfl,aD,sm 8,?_⟩
  rw [bU]
  refine ⟨_,rfl,a,dx,_,rfl,aD,sm 9,?_⟩
  rw [bU]
  generalize eH3:a6 (a6 H2 th _) a _=H3
  have na2:th≠a:=Ne.symm (aH ea2 nth)
  have u3:bG [a] H2 H3:=eH3▸(aK.new nth).fC.trans (bG.chg (by simp))
  have ea3:H3 a=some _:=eH3▸aD
  have et3:H3 th=some (.lst []):=by rw [<-eH3,aJ na2,aD]
  have es3:H3 str=some _:=u3 _ _ es2 (by simpa using na1)
  have fr3:∀ b,H3 b=none->H2 b=none:=fun b e=>by
   cases z:H2 b with
   | none=>rfl
   | some o=>rw [u3 b o z (by intro m;simp at m;subst m;rw [ea3] at e;cases e)] at e;cases e
  refine fun nL nshs=>⟨_,rfl,a,dx,_,rfl,aK.new nshs _ _ ea3,sm 10,?_⟩
  refine ⟨_,rfl,a,dx,_,rfl,aD,sm 11,?_⟩
  rw [bU]
  generalize eH4:a6 (a6 H3 nL _) a _=H4
  have na3:nL≠a:=Ne.symm (aH ea3 nshs)
  have u4:bG [a] H3 H4:=eH4▸(aK.new nshs).fC.trans (bG.chg (by simp))
  have ea4:H4 a=some _:=eH4▸aD
  have ed4:H4 nL=some (.dK []):=by rw [<-eH4,aJ na3,aD]
  have et4:H4 th=some _:=u4 _ _ et3 (by simpa using na2)
  have es4:H4 str=some _:=u4 _ _ es3 (by simpa using na1)
  have fr4:∀ b,H4 b=none->H3 b=none:=fun b e=>by
   cases z:H3 b with
   | none=>rfl
   | some o=>rw [u4 b o z (by intro m;simp at m;subst m;rw [ea4] at e;cases e)] at e;cases e
  refine ⟨Nat.zero_le _,fun wt nwt=>⟨_,rfl,a,dx,_,rfl,aK.new nwt _ _ ea4,sm 12,?_⟩⟩
  generalize eH5:a6 (a6 H4 wt _) a _=H5
  have na4:wt≠a:=Ne.symm (aH ea4 nwt)
  have u5:bG [a] H4 H5:=eH5▸(aK.new nwt).fC.trans (bG.chg (by simp))
  have ea5:H5 a=some _:=eH5▸aD
  have ew5:H5 wt=some (.lst []):=by rw [<-eH5,aJ na4,aD]
  have ed5:H5 nL=some _:=u5 _ _ ed4 (by simpa using na3)
  have et5:H5 th=some _:=u5 _ _ et4 (by simpa using na2)
  have es5:H5 str=some _:=u5 _ _ es4 (by simpa using na1)
  have uu:bG [a] H H5:=u1.trans (u2.trans (u3.trans (u4.trans u5)))
  have fx:iV t H H5:=uu.fix fun b hb o e=>by
   simp at hb;subst hb;rw [hp] at e;cases e;exact T.JL
  obtain ⟨kvs,hC1,hC2⟩:=hC
  have ncl:cl≠a:=cX hC1 hp nofun
  refine q H5 ⟨a,dx,str,th,nL,wt,[]⟩ rfl uu (fun b hb=>?_) rfl ⟨ea5,es5,rfl,⟨[],et5,aL.nil⟩,⟨[],ew5,aL.nil⟩,ed5,(fun x hx=>nomatch hx),(fun o ho=>nomatch ho),List.nodup_nil,?_,?_,?_,(fun x hx=>nomatch hx),(fun x hx=>nomatch hx),hS.fix fx,⟨kvs,uu _ _ hC1 (by simpa using ncl),hC2.fix fx⟩,?_⟩
  ·simp only [Pa.fp,List.map_nil,mem_cons,not_mem_nil,or_false] at hb
   rcases hb with rfl|rfl|rfl|rfl|rfl
   ·exact .inl rfl
   ·exact .inr (fr1 _ nstr)
   ·exact .inr (fr1 _ (fr2 _ nth))
   ·exact .inr (fr1 _ (fr2 _ (fr3 _ nshs)))
   ·exact .inr (fr1 _ (fr2 _ (fr3 _ (fr4 _ nwt))))
  ·exact aH es2 nth
  ·exact aH es4 nwt
  ·exact aH et4 nwt
  ·exact aH hC1 (fr1 _ (fr2 _ (fr3 _ nshs)))
inductive mB(t:bH)(K:Frag)(vs:List V)(H:Hp)(Q:VK)(E:XK):Prop
 | mk:∀ (gl:Addr) (k:Glue) (s:SgPage.Style) (p:Sofar) (bC cl:Addr) (bg hs:Bool) (g:Pa),vs=[.ref g.a,.ref gl]->a9 t H s p bC cl bg hs g->Rd H gl (.lst (eU k))->gl≠g.str->k.so<=3->(∀ H',g_ g g H H'->a9 t H' s (addGlue p k) bC cl bg hs g->Q .eX H')->mB t K vs H Q E
theorem mR{t:bH}(T:b7 K mg t):bL P w K mg base hJ 1 t.cO.f t.cO.fd ["self","glue"] (mB t K):=by
 refine T.cO.F.ok uR (fun vs H Q E h=>?_) (fun cdv A outer s H vs Q E hr h=>?_)
 ·obtain ⟨gl,k,s,p,bC,cl,bg,hs,g,rfl,_⟩:=h
  rfl
 ·obtain ⟨gl,k,S,p,bC,cl,bg,hs,g,rfl,A1,hG,n1,hso,q⟩:=h
  refine ⟨_,(aB (Ja (aZ T.aO.cl T.kP (pv 0)) (ix (pv 1) aG) JN (ix (pv 1) aG) CF ED) (aE (gL T.aO.cl T.oZ (pv 0) (ix (pv 1) aG) m9))),?_⟩
  have hq:cT K H gl (eU k):=.inl hG
  have h4:=A1.st4
  refine ⟨_,rfl,g.a,g.dx,_,_,rfl,A1.obj,rfl,_,rfl,gl,_,_,_,rfl,rfl,hq,b6 (j:=2) (v:=.int (k.so:Int)) rfl,g.str,_,k.so,_,rfl,rfl,cT.of A1.vW,GL (by omega),_,rfl,gl,_,_,_,rfl,rfl,hq,b6 (j:=1) (v:=.int k.stretch) rfl,_,_,rfl,rfl,g.str,_,_,_,rfl,rfl,A1.vW,Jw (by rw [length_map];omega),?_⟩
  rw [Ro]
  have A2:a9 t (a6 H g.str (.lst ((pP p.stretch k.so k.stretch).map V.int))) S { p with stretch:=pP p.stretch k.so k.stretch } bC cl bg hs g:=by
   refine A1.list T (b:=g.str) A1.vW (.inl rfl) ?_ ?_ ?_ rfl rfl rfl rfl rfl rfl
   ·rw [if_pos rfl];exact ⟨rfl,by show (pP _ _ _).length=4;unfold pP;rw [List.length_set];exact h4⟩
   ·rw [if_neg A1.n1]
   ·rw [if_neg A1.n2]
  have hq':cT K (a6 H g.str (.lst ((pP p.stretch k.so k.stretch).map V.int))) gl (eU k):=by
   refine .inl (hG.imp (fun e=>by rw [aJ n1];exact e) fun ⟨ob,e⟩=>⟨ob,by rw [aJ n1];exact e⟩)
  refine ⟨_,rfl,g.a,g.dx,_,_,rfl,A2.obj,rfl,_,rfl,gl,_,_,_,rfl,rfl,hq',b6 (j:=3) (v:=.int k.shrink) rfl,_,_,rfl,rfl,g.dx,_,A2.obj,sm 13,?_⟩
  refine q _ ((g_.chg (eP (g:=g)).2.1).trans (g_.chg (eP (g:=g)).1)) ?_
  exact A2.nums T (p2:=addGlue p k) rfl rfl rfl rfl
inductive CQ(t:bH)(K:Frag)(vs:List V)(H:Hp)(Q:VK)(E:XK):Prop
 | mk:∀ (c:Nat) (ka sa tl:Addr) (s:SgPage.Style) (p:Sofar) (bC cl:Addr) (bg hs:Bool) (g:Pa),vs=[.ref g.a,.ref ka,.ref sa]->a9 t H s p bC cl bg hs g->iE t H ka (classOf s c)->(c,sa,tl)∈g.cs->Q (.int (aT s p c).goal) H->CQ t K vs H Q E
theorem HV{as:List Addr}{l:List Thing}(h:as.length=l.length):decide (V.int ((as.map V.ref).length:Int)=V.int 0)=l.isEmpty:=by
 rw [a8,length_map,h]
 cases l with
 | nil=>rfl
 | cons x r=>show decide _=false;rw [decide_eq_false_iff_not];simp;omega
theorem t_{t:bH}(T:b7 K mg t):bL P w K mg base hJ 1 t.mL.f t.mL.fd ["page","style","share"] (CQ t K):=by
 refine T.mL.F.ok Kn (fun vs H Q E h=>?_) (fun cdv A outer s H vs Q E hr h=>?_)
 ·obtain ⟨c,ka,sa,tl,s,p,bC,cl,bg,hs,g,rfl,_⟩:=h
  rfl
 ·obtain ⟨c,ka,sa,tl,S,p,bC,cl,bg,hs,g,rfl,A1,⟨kdx,sl,hk1,hk2⟩,hx,q⟩:=h
  have q:∀ d,(aT S p c).goal=d->Q (.int d) H:=fun d e=>e▸q
  refine ⟨_,(aB (a_ (tc bY (ln T.f_ (aZ T.bV.cl T.eB (pv 2))) aG) (aE (aM (bW jW (aZ T.aO.cl T.gY (pv 0)) (ix (aZ T.bK.cl T.jU (pv 1)) aG)))) aR) (aE (aM (aZ T.aO.cl T.gY (pv 0))))),?_⟩
  obtain ⟨sdx,as,h1,h2,h3⟩:=A1.sh _ hx
  refine ⟨_,rfl,sa,sdx,_,_,rfl,h1,rfl,tl,_,rfl,.inl (cT.of h2),rfl,_,rfl,?_⟩
  rw [HV h3.len]
  refine aQ (fun z=>?_) fun z=>?_
  ·refine ⟨_,rfl,g.a,g.dx,_,_,rfl,A1.obj,rfl,_,rfl,ka,kdx,_,_,rfl,hk1,rfl,sl,_,_,_,rfl,rfl,hk2.sq,b6 (j:=0) (v:=.int (classOf S c).skip.size) rfl,_,_,rfl,rfl,q _ ?_⟩
   unfold aT;rw [if_pos z]
  ·refine ⟨_,rfl,g.a,g.dx,_,_,rfl,A1.obj,rfl,q _ ?_⟩
   unfold aT;rw [if_neg (by rw [z];decide)]
theorem Fu{f h:Int}(h1:0<=f)(h2:f<=1000000):PV h f:=.inr ⟨by omega,by omega⟩
theorem Kx:MK 0 1000:=⟨by decide,by rw [show (1000:Int)=10 ^ 3 from rfl];exact (Eb (x:=10) (by decide) (by decide)).2⟩
inductive yN(t:bH)(K:Frag)(vs:List V)(H:Hp)(Q:VK)(E:XK):Prop
 | mk:∀ (c:Nat) (ka sa tl b:Addr) (gg:Glue) (d k:Int) (l:List Thing) (s:SgPage.Style) (p:Sofar) (bC cl:Addr) (bg hs:Bool) (g:Pa),vs=[.ref g.a,.ref ka,.ref sa,.ref b]->a9 t H s p bC cl bg hs g->iE t H ka (classOf s c)->(c,sa,tl)∈g.cs->bQ t H b (.insert c gg d k l)->oC l->dI s->(∀ H',aK H H'->Q (.bl (decide (i6 s p c l))) H')->yN t K vs H Q E
theorem F9{t:bH}(T:b7 K mg t):bL P w K mg base hJ 4 t.lN.f t.lN.fd ["page","style","share","insertion"] (yN t K):=by
 refine T.lN.F.ok qE (fun vs H Q E h=>?_) (fun cdv A outer s H vs Q E hr h=>?_)
 ·obtain ⟨c,ka,sa,tl,b,gg,d,k,l,s,p,bC,cl,bg,hs,g,rfl,_⟩:=h
  rfl
 ·obtain ⟨c,ka,sa,tl,b,gg,d,k,l,S,p,bC,cl,bg,hs,g,rfl,A1,hK,hx,hB,hO,SO,q⟩:=h
  refine ⟨_,(aB (sv 4 qE.nd (aZ T.bE.cl T.jK (cf (zW T) T.pK hr aV (aA (JA T.aP.cl T.iP (pv 3)) aF)))) (aB (a_ (PW.pt (kX (c2 (aZ T.bV.cl T.fF (pv 2))) (jD (tc sP (bW iK (aZ T.bV.cl T.jL (pv 2)) (pv 4)) (aZ T.bK.cl T.jX (pv 1)))))) (aE (aM mG)) aR) (aB (sv 5 qE.nd (bW iK (bW iK (aZ T.aO.cl T.fU (pv 0)) (aZ T.aO.cl T.eQ (pv 0))) (bW wC (bW Eu (pv 4) (aZ T.bK.cl T.d5 (pv 1))) (aW T.zY)))) (aE (aM (ec pT (pv 5) (cf (t_ T) T.mL hr aV (aA (pv 0) (aA (pv 1) (aA (pv 2) aF)))))))))),?_⟩
  refine ⟨_,rfl,b,c,gg,d,k,l,rfl,hB,fun il as hz hT=>⟨il,as,l,rfl,hz.sq,hT,hO,fun a st sh H1 s1 na Su=>?_⟩⟩
  obtain ⟨dxs,hA⟩:=Su.obj
  refine ⟨a,dxs,_,_,rfl,hA,rfl,?_⟩
  have A2:=A1.same s1
  have hK2:=hK.fix s1.fix
  obtain ⟨kdx,sl,hk1,hk2⟩:=id hK2
  obtain ⟨sdx,bs,h1,h2,h3⟩:=A2.sh _ hx
  obtain ⟨f0,f1,f2,f3⟩:=SO.at c
  obtain ⟨k1,k2,k3,k4,k5,k6,k7⟩:=dZ S p c
  have q:∀ v,decide (i6 S p c l)=v->Q (.bl v) H1:=fun v e=>e▸q H1 s1
  refine ⟨_,rfl,sa,sdx,_,_,rfl,h1,rfl,_,rfl,aQ (fun z=>oB ?_) fun z=>⟨_,rfl,sa,sdx,_,_,rfl,h1,rfl,_,rfl,_,_,rfl,rfl,_,rfl,ka,kdx,_,_,rfl,hk1,rfl,_,_,rfl,rfl,_,rfl,aQ (fun z2=>?_) fun z2=>?_⟩⟩
  ·refine q false ?_
   rw [decide_eq_false_iff_not]
   rintro ⟨e,_⟩
   rw [z] at e;cases e
  ·refine q false ?_
   rw [decide_eq_false_iff_not]
   rintro ⟨_,e,_⟩
   have:=of_decide_eq_true z2
   unfold tall at e
   have:(classOf S c).most<(a7 p c).high+columnSum l:=this
   omega
  have z2:¬ (classOf S c).most<(a7 p c).high+columnSum l:=of_decide_eq_false z2
  refine ⟨_,rfl,g.a,g.dx,_,_,rfl,A2.obj,rfl,_,rfl,g.a,g.dx,_,_,rfl,A2.obj,rfl,_,_,rfl,rfl,_,rfl,_,rfl,ka,kdx,_,_,rfl,hk1,rfl,_,_,rfl,rfl,Fu f1 f2,_,_,rfl,rfl,Kx,_,_,rfl,rfl,?_⟩
  refine ⟨_,rfl,_,rfl,_,rfl,_,rfl,c,ka,sa,tl,S,p,bC,cl,bg,hs,g,rfl,A2,hK2,hx,_,_,rfl,rfl,q _ ?_⟩
  have e:i6 S p c l↔p.sum+p.depth+columnSum l*(classOf S c).factor / 1000<=(aT S p c).goal:=by
   unfold i6 tall counted
   rw [k6,k7]
   exact ⟨fun h=>h.2.2,fun h=>⟨z,by omega,h⟩⟩
  exact decide_eq_decide.mpr e
inductive Dx(t:bH)(K:Frag)(vs:List V)(H:Hp)(Q:VK)(E:XK):Prop
 | mk:∀ (c:Nat) (ka sa tl:Addr) (s:SgPage.Style) (p:Sofar) (bC cl:Addr) (bg hs:Bool) (g:Pa),vs=[.ref g.a,.ref ka,.ref sa]->a9 t H s p bC cl bg hs g->iE t H ka (classOf s c)->(c,sa,tl)∈g.cs->dI s->Q (.int (eK s p c)) H->Dx t K vs H Q E
theorem J6{t:bH}(T:b7 K mg t):bL P w K mg base hJ 2 t.rJ.f t.rJ.fd ["page","style","share"] (Dx t K):=by
 refine T.rJ.F.ok uK (fun vs H Q E h=>?_) (fun cdv A outer s H vs Q E hr h=>?_)
 ·obtain ⟨c,ka,sa,tl,s,p,bC,cl,bg,hs,g,rfl,_⟩:=h
  rfl
 ·obtain ⟨c,ka,sa,tl,S,p,bC,cl,bg,hs,g,rfl,A1,hK,hx,SO,q⟩:=h
  have q:∀ d,eK S p c=d->Q (.int d) H:=fun d e=>e▸q
  refine ⟨_,(aB (sv 3 uK.nd (bW jW (aZ T.bK.cl T.jX (pv 1)) (aZ T.bV.cl T.jL (pv 2)))) (aB (a_ (tc bY (aZ T.bK.cl T.d5 (pv 1)) aG) (aE (aM (pv 3))) aR) (aB (sv 4 uK.nd (bW jW (bW jW (cf (t_ T) T.mL hr aV (aA (pv 0) (aA (pv 1) (aA (pv 2) aF)))) (aZ T.aO.cl T.fU (pv 0))) (aZ T.aO.cl T.eQ (pv 0)))) (aE (aM (jI (wK rfl) (by rfl) T.MN IL (aA (pv 3) (aA (bW wC (bW Eu (pv 4) (aW T.zY)) (aZ T.bK.cl T.d5 (pv 1))) aF)))))))),?_⟩
  obtain ⟨kdx,sl,hk1,hk2⟩:=id hK
  obtain ⟨sdx,as,h1,h2,h3⟩:=A1.sh _ hx
  obtain ⟨f0,f1,f2,f3⟩:=SO.at c
  obtain ⟨k1,k2,k3,k4,k5,k6,k7⟩:=dZ S p c
  refine ⟨_,rfl,ka,kdx,_,_,rfl,hk1,rfl,_,rfl,sa,sdx,_,_,rfl,h1,rfl,_,_,rfl,rfl,?_⟩
  refine ⟨_,rfl,ka,kdx,_,_,rfl,hk1,rfl,rfl,_,rfl,aQ (fun z=>?_) fun z=>?_⟩
  ·rw [a8,decide_eq_true_eq] at z
   refine ⟨_,rfl,q _ ?_⟩
   unfold eK;rw [if_neg (by omega)]
  rw [a8,decide_eq_false_iff_not] at z
  have fp:0<(classOf S c).factor:=by
   rcases Int.lt_or_eq_of_le f1 with h|h
   ·exact h
   ·exact absurd h.symm z
  have cd:MK 0 (classOf S c).factor:=by
   refine ⟨fp,?_⟩
   have:=(Eb (x:=1000000) (by decide) (by decide)).2
   omega
  refine ⟨_,rfl,_,rfl,_,rfl,c,ka,sa,tl,S,p,bC,cl,bg,hs,g,rfl,A1,hK,hx,_,rfl,g.a,g.dx,_,_,rfl,A1.obj,rfl,_,_,rfl,rfl,_,rfl,g.a,g.dx,_,_,rfl,A1.obj,rfl,_,_,rfl,rfl,?_⟩
  refine ⟨_,rfl,_,rfl,_,_,rfl,rfl,.inr ⟨by decide,by decide⟩,_,rfl,ka,kdx,_,_,rfl,hk1,rfl,_,_,rfl,rfl,cd,_,_,rfl,q _ ?_⟩
  unfold eK
  rw [if_pos fp,Ql,k6,k7]
theorem IS(p:Sofar)(x:OnPage):a7 (setClass p x) x.cls=x:=by
 unfold a7 classOn SgPage.setClass
 simp only []
 rw [List.find?_append]
 have:(p.classes.filter fun (y:OnPage)=>y.cls !=x.cls).find? (fun y=>y.cls==x.cls)=none:=by
  rw [List.find?_eq_none]
  intro y hy
  have:=(List.mem_filter.mp hy).2
  simpa using this
 rw [this];simp
theorem qT(p:Sofar)(x:OnPage){d:Nat}(h:d≠x.cls):a7 (setClass p x) d=a7 p d:=by
 unfold a7 classOn SgPage.setClass
 simp only []
 rw [List.find?_append]
 have e:(p.classes.filter fun (y:OnPage)=>y.cls !=x.cls).find? (fun y=>y.cls==d)=p.classes.find? (fun y=>y.cls==d):=by
  generalize p.classes=l
  induction l with
  | nil=>rfl
  | cons y r ih =>
   rw [List.filter_cons]
   by_cases q:y.cls=x.cls
   ·rw [if_neg (by simp [q]),ih,List.find?_cons_of_neg]
    simp [q];exact fun z=>h z.symm
   ·rw [if_pos (by simp [q])]
    by_cases z:y.cls=d
    ·rw [List.find?_cons_of_pos (by simp [z]),List.find?_cons_of_pos (by simp [z])]
    ·rw [List.find?_cons_of_neg (by simp [z]),List.find?_cons_of_neg (by simp [z]),ih]
 rw [e]
 have:([x]:List OnPage).find? (fun y=>y.cls==d)=none:=by simp;exact fun z=>h z.symm
 rw [this];simp
theorem Il(p:Sofar){q:Sofar}(h:q.classes=p.classes)(c:Nat):a7 q c=a7 p c:=by unfold a7 classOn;rw [h]
theorem DY{p:Sofar}{x o:OnPage}(h:o∈(setClass p x).classes):o.cls=x.cls\/∃ o2∈p.classes,o2.cls=o.cls:=by
 rcases kR h with h|h
 ·exact .inr ⟨o,h,rfl⟩
 ·exact .inl (by rw [h])
structure M_(p:Sofar)(c:Nat):Prop where
 high:Le (a7 p c).high 576460752303423488
 len:(a7 p c).things.length<=1000000
inductive Hs(t:bH)(K:Frag)(vs:List V)(H:Hp)(Q:VK)(E:XK):Prop
 | mk:∀ (c:Nat) (ka sa tl la:Addr) (as:List Addr) (l:List Thing) (s:SgPage.Style) (p:Sofar) (bC cl:Addr) (bg hs:Bool) (g:Pa),vs=[.ref g.a,.ref ka,.ref sa,.ref la]->a9 t H s p bC cl bg hs g->iE t H ka (classOf s c)->(c,sa,tl)∈g.cs->Rd H la (.lst (as.map V.ref))->la∉g.fp->aL t H as l->oC l->l.length<=1000000->M_ p c->dI s->(∀ H' g' tl',g_ g g' H H'->(c,sa,tl')∈g'.cs->g'.cs.length=g.cs.length->a9 t H' s (cK s p c l (a7 p c).closed) bC cl bg hs g'->Q .eX H')->Hs t K vs H Q E
theorem ON{g g':Pa}{H H':Hp}{la:Addr}{u:HO}(h:Rd H la u)(f:g_ g g' H H')(n:la∉g.fp):Rd H' la u:=h.imp (fun e=>f.2.1 _ _ e n) fun ⟨o,e⟩=>⟨o,f.2.1 _ _ e n⟩
theorem Cm{t:bH}(T:b7 K mg t):bL P w K mg base hJ 4 t.vC.f t.vC.fd ["page","style","share","things"] (Hs t K):=by
 refine T.vC.F.ok HP (fun vs H Q E h=>?_) (fun cdv A outer s H vs Q E hr h=>?_)
 ·obtain ⟨c,ka,sa,tl,la,as,l,s,p,bC,cl,bg,hs,g,rfl,_⟩:=h
  rfl
 ·obtain ⟨c,ka,sa,tl,la,as,l,S,p,bC,cl,bg,hs,g,rfl,A1,hK,hx,hR,hn,hT,hO,hl,OO,SO,q⟩:=h
  refine ⟨_,(aB (bT T.aO.cl T.gY (pv 0) (cf (t_ T) T.mL hr aV (aA (pv 0) (aA (pv 1) (aA (pv 2) aF))))) (gZ (a_ (tc bY (ln T.f_ (aZ T.bV.cl T.eB (pv 2))) aG) (aE (bJ (cP (pv 0) T.aO.cl T.cO.m (mR T) hr.m T.cO.b .nil aV (aA (aZ T.bK.cl T.jU (pv 1)) aF)))) aR) (aB (sv 4 HP.nd (aZ T.bE.cl T.jK (cf (zW T) T.pK hr aV (aA (pv 3) aF)))) (aB (gL T.aO.cl T.gY (pv 0) (bW wC (bW Eu (pv 4) (aZ T.bK.cl T.d5 (pv 1))) (aW T.zY)) QY) (aB (gL T.bV.cl T.jL (pv 2) (pv 4) m9) (aE (bT T.bV.cl T.eB (pv 2) (bW eN (aZ T.bV.cl T.eB (pv 2)) (pv 3))))))))),?_⟩
  obtain ⟨f0,f1,f2,f3⟩:=SO.at c
  obtain ⟨k1,k2,k3,k4,k5,k6,k7⟩:=dZ S p c
  refine ⟨_,rfl,_,rfl,_,rfl,c,ka,sa,tl,S,p,bC,cl,bg,hs,g,rfl,A1,hK,hx,_,rfl,g.a,g.dx,_,rfl,A1.obj,sm 13,?_⟩
  have A2:=A1.nums T (p2:={ p with goal:=(aT S p c).goal }) (bg2:=bg) (hs2:=hs) rfl rfl rfl rfl
  have r2:g_ g g H _:=g_.chg (o:=.ins t.cW g.dx (pgF bC cl (aT S p c).goal p.sum p.depth g.str p.shrink g.th bg hs g.nL p.extra g.wt)) (eP (g:=g)).1
  generalize eH2:a6 H g.a (.ins t.cW g.dx (pgF bC cl (aT S p c).goal p.sum p.depth g.str p.shrink g.th bg hs g.nL p.extra g.wt))=H2 at A2 r2
  have fx2:=A1.fix T r2
  have hK2:=hK.fix fx2
  obtain ⟨kdx,sl,hk1,hk2⟩:=id hK2
  show Rm _ _ _ _ (a6 H g.a (.ins t.cW g.dx (pgF bC cl (aT S p c).goal p.sum p.depth g.str p.shrink g.th bg hs g.nL p.extra g.wt)))
  rw [eH2]
  refine ⟨fun σ' H'=>σ'=[some (.ref g.a),some (.ref ka),some (.ref sa),some (.ref la),none]/\g_ g g H2 H'/\a9 t H' S (aT S p c) bC cl bg hs g,?_,?_⟩
  ·obtain ⟨sdx,bs,h1,h2,h3⟩:=A2.sh _ hx
   refine ⟨_,rfl,sa,sdx,_,_,rfl,h1,rfl,tl,_,rfl,.inl (cT.of h2),rfl,_,rfl,?_⟩
   have he:a7 { p with goal:=(aT S p c).goal } c=a7 p c:=Il p rfl c
   rw [he] at h3
   rw [HV h3.len]
   refine aQ (fun z=>?_) fun z=>?_
   ·refine ⟨_,rfl,g.a,g.dx,_,rfl,A2.obj,rfl,_,rfl,ka,kdx,_,_,rfl,hk1,rfl,sl,(classOf S c).skip,S,_,bC,cl,bg,hs,g,rfl,A2,hk2.rd,?_,(lB f0).2.2.2.1,fun H3 r3 A3=>⟨rfl,r3,?_⟩⟩
    ·intro zz
     obtain ⟨od,e⟩:=hk2
     have:=A2.vW
     rw [<-zz,e] at this
     cases this
    ·have:aT S p c=addGlue { p with goal:=(aT S p c).goal } (classOf S c).skip:=by
      unfold aT
      rw [if_pos z];rfl
     rw [this];exact A3
   ·refine ⟨rfl,g_.refl,?_⟩
    have:aT S p c=p:=by unfold aT;rw [if_neg (by rw [z];decide)]
    rw [this]
    rw [this] at A2
    exact A2
  rintro σ' H3 ⟨rfl,r3,A3⟩
  have r23:=r2.trans r3
  have hR3:=ON hR r23 hn
  have fx3:=A1.fix T r23
  refine ⟨_,rfl,la,as,l,rfl,.inl hR3,hT.fix fx3,hO,fun a st sh H4 s4 na Su=>?_⟩
  obtain ⟨dxs,hA⟩:=Su.obj
  have A4:=A3.same s4
  have fx4:=fx3.trans s4.fix
  have r4:=r23.trans (g_.of_same (g:=g) s4)
  obtain ⟨kdx4,sl4,hk14,hk24⟩:=hK.fix fx4
  refine ⟨a,dxs,_,_,rfl,hA,rfl,?_⟩
  refine ⟨_,rfl,g.a,g.dx,_,_,rfl,A4.obj,rfl,_,rfl,_,rfl,ka,kdx4,_,_,rfl,hk14,rfl,_,_,rfl,rfl,Fu f1 f2,_,_,rfl,rfl,Kx,_,_,rfl,rfl,g.dx,_,A4.obj,sm 13,?_⟩
  have A5:=A4.nums T (p2:={ aT S p c with goal:=(aT S p c).goal - counted (classOf S c).factor (tall l) }) (bg2:=bg) (hs2:=hs) rfl rfl rfl rfl
  have r5:g_ g g H4 _:=g_.chg (o:=.ins t.cW g.dx (pgF bC cl ((aT S p c).goal - counted (classOf S c).factor (tall l)) (aT S p c).sum (aT S p c).depth g.str (aT S p c).shrink g.th bg hs g.nL (aT S p c).extra g.wt)) (eP (g:=g)).1
  show OB _ _ _ _ (a6 H4 g.a (.ins t.cW g.dx (pgF bC cl ((aT S p c).goal - counted (classOf S c).factor (tall l)) (aT S p c).sum (aT S p c).depth g.str (aT S p c).shrink g.th bg hs g.nL (aT S p c).extra g.wt)))
  generalize a6 H4 g.a (.ins t.cW g.dx (pgF bC cl ((aT S p c).goal - counted (classOf S c).factor (tall l)) (aT S p c).sum (aT S p c).depth g.str (aT S p c).shrink g.th bg hs g.nL (aT S p c).extra g.wt))=H5 at A5 r5 ⊢
  have r45:=r4.trans r5
  have fx5:=A1.fix T r45
  obtain ⟨sdx,bs,h1,h2,h3⟩:=A5.sh _ hx
  have he:a7 { aT S p c with goal:=(aT S p c).goal - counted (classOf S c).factor (tall l) } c=a7 p c:=Il p k4 c
  rw [he] at h1 h3
  have nst:sa≠tl:=cX h1 h2 nofun
  refine ⟨_,rfl,sa,sdx,_,_,rfl,h1,rfl,_,rfl,_,_,rfl,rfl,sdx,_,h1,sm 3,?_⟩
  have hR5:=ON hR r45 hn
  have hsa:sa∈g.fp:=by
   unfold Pa.fp
   simp only [mem_cons,mem_map]
   exact .inr (.inr (.inr (.inr (.inr ⟨_,hx,rfl⟩))))
  have nla:la≠sa:=fun z=>hn (by rw [z];exact hsa)
  generalize eH6:a6 H5 sa _=H6
  have e6:H6 sa=some _:=eH6▸aD
  have k6':∀ b o,H5 b=some o->b≠sa->H6 b=some o:=fun b o e n=>by rw [<-eH6,aJ n];exact e
  have hR6:Rd H6 la (.lst (as.map V.ref)):=hR5.imp (fun e=>k6' _ _ e nla) fun ⟨o,e⟩=>⟨o,k6' _ _ e nla⟩
  refine ⟨_,rfl,sa,sdx,_,_,rfl,e6,rfl,_,rfl,tl,la,_,_,rfl,rfl,.inl (k6' _ _ h2 (Ne.symm nst)),hR6,?_,fun tl' ntl=>⟨_,rfl,sa,sdx,_,rfl,aK.new ntl _ _ e6,sm 3,?_⟩⟩
  ·rw [length_map,length_map,h3.len,hT.len,sizeLine_eq]
   have:=OO.len
   omega
  have n5:H5 tl'=none:=by
   cases z:H5 tl' with
   | none=>rfl
   | some o =>
    by_cases zz:tl'=sa
    ·rw [zz,e6] at ntl;cases ntl
    ·rw [k6' _ _ z zz] at ntl;cases ntl
  have ntsa:tl'≠sa:=Ne.symm (aH e6 ntl)
  have kk:∀ b o,H5 b=some o->b≠sa->a6 (a6 H6 tl' (.lst (bs.map V.ref++as.map V.ref))) sa (.ins t.iC sdx (shF tl' ((a7 p c).high+columnSum l) (a7 p c).closed)) b=some o:=by
   intro b o e n
   rw [aJ n,aJ (aH e n5)]
   exact k6' b o e n
  have fx7:iV t H5 (a6 (a6 H6 tl' (.lst (bs.map V.ref++as.map V.ref))) sa (.ins t.iC sdx (shF tl' ((a7 p c).high+columnSum l) (a7 p c).closed))):=fun b o cc e=>kk b o e fun z=>by subst z;rw [h1] at e;cases e;exact T.vL cc
  have eon:∀ dd,a7 { aT S p c with goal:=(aT S p c).goal - counted (classOf S c).factor (tall l) } dd=a7 p dd:=fun dd=>Il p k4 dd
  have ocl:(a7 p c).cls=c:=qU p c
  obtain ⟨A8,r8,hx8⟩:=A5.share T (p2:=cK S p c l (a7 p c).closed) hx kk (tl':=tl') (o':={ a7 p c with things:=(a7 p c).things++l,high:=(a7 p c).high+tall l,closed:=(a7 p c).closed }) ⟨sdx,bs++as,aD,by rw [aJ ntsa,aD,map_append],(h3.fix fx7).append ((hT.fix fx5).fix fx7)⟩ (.inr n5)
   (by
    have:=IS { aT S p c with goal:=(aT S p c).goal - counted (classOf S c).factor (tall l) } { a7 p c with things:=(a7 p c).things++l,high:=(a7 p c).high+tall l,closed:=(a7 p c).closed }
    show a7 (setClass _ _) c=_
    rw [show (OnPage.cls { a7 p c with things:=(a7 p c).things++l,high:=(a7 p c).high+tall l,closed:=(a7 p c).closed })=c from ocl] at this
    exact this)
   (fun dd hd=>qT _ _ (by show dd≠(a7 p c).cls;rw [ocl];exact hd))
   (fun o ho=>by
    rcases DY ho with h|h
    ·exact .inl (by rw [h];exact ocl)
    ·exact .inr h) rfl rfl rfl rfl rfl rfl rfl rfl
  exact q _ _ tl' (r45.trans r8) hx8 (by show (List.map _ _).length=_;rw [length_map]) A8
end
theorem PY{d:Addr}{o:Obj}{kvs:List (fY×V)}{g:TG}{tt:TT}{te:TE}{vs:List Nat}{σ:L2.St}{H1:Hp}{D:Addr}{Qd:Hp->Prop}(Pv:Nat->Hp->Prop)(h0:Pv 0 (a6 H1 D (.lst [])))(hl:∀ i H,Pv i H->H d=some (.mH o (.dK kvs)))
 (hs:∀ i k x H,kvs[i]?=some (k,x)->Pv i H->g x (m_ σ vs) H fun σ2 H2=>m_ σ2 vs=m_ σ vs/\tt σ2 H2 fun b H3 =>
  if b=true then te σ2 H3 fun y H4=>∃ acc,H4 D=some (.lst acc)/\acc.length<sizeLine/\Pv (i+1) (a6 H4 D (.lst (acc++[y]))) else Pv (i+1) H3) (hd:∀ H,Pv kvs.length H->Qd H) :
 ∃ W:Nat->Nat->Hp->Prop,(∃ m,W 0 m (a6 H1 D (.lst [])))/\∀ i m H,W i m H →
  ((
   Itd d o kvs).stop i H/\Qd H)\/((Itd d o kvs).go i H/\∃ Nx:Hp->Prop,(∀ H',Nx H'->∃ m',m'<m/\W (i+1) m' H')/\∀ x H',(Itd d o kvs).yld i H x H'->g x (m_ σ vs) H' fun σ2 H2=>m_ σ2 vs=m_ σ vs/\tt σ2 H2 fun b H3 =>
   if b=true then te σ2 H3 fun y H4=>∃ acc,H4 D=some (.lst acc)/\acc.length<sizeLine/\Nx (a6 H4 D (.lst (acc++[y]))) else Nx H3):=by
 refine ⟨fun i m H=>m=kvs.length - i/\i<=kvs.length/\Pv i H,⟨kvs.length,by simp,Nat.zero_le _,h0⟩,?_⟩
 rintro i m H ⟨rfl,hi,p⟩
 by_cases hlt:i<kvs.length
 ·refine .inr ⟨⟨hl i H p,hlt⟩,Pv (i+1),fun H' p'=>⟨kvs.length - (i+1),by omega,rfl,hlt,p'⟩,fun x H' y=>?_⟩
  obtain ⟨e,k,y⟩:=y
  subst e
  exact hs i k x _ y p
 ·have e:i=kvs.length:=by omega
  subst e
  exact .inl ⟨⟨hl _ H p,Nat.le_refl _⟩,hd H p⟩
theorem QQ{σ:L2.St}{H:Hp}{A B:Hp->Prop}(h:A H):Sg σ H (fun b H3=>if b=true then A H3 else B H3):=by
 show if true=true then A H else B H
 rw [if_pos rfl];exact h
theorem LW{X:Cx}{K:Frag}(h:X.K=K):AL X (.builtin "len") (Mx K):=h▸B9
theorem ND{X:Cx}{K:Frag}(h:X.K=K):IxR X (Ls K):=h▸MA
theorem SN{X:Cx}{K:Frag}{a b:Expr}{ta tb:TE}{pos:Pos}(ha:PE X a ta)(hb:PE X b tb)(h:X.K=K:=by rfl)(hs:IT b:=by exact fun _ _=>rfl):PE X (.Subscript a b pos) (tOp (Ls K) ta tb):=KN (ND h) ha hb hs
section
variable {P:Program}{w:World}{K:Frag}{mg:Str->Option Value}{base:Heap}
inductive j7(t:bH)(K:Frag)(vs:List V)(H:Hp)(Q:VK)(E:XK):Prop
 | mk:∀ (s:SgPage.Style) (p:Sofar) (bC cl:Addr) (bg hs:Bool) (g:Pa),vs=[.ref g.a]->a9 t H s p bC cl bg hs g->g.cs.length<100000->(∀ H',aK H H'->Q (.bl (hs||g.cs.any fun x=>!(a7 p x.1).things.isEmpty)) H')->j7 t K vs H Q E
theorem Ru{cs:List (Nat×Addr×Addr)}{i:Nat}{k:fY}{v:V}(h:(fJ cs)[i]?=some (k,v)):∃ x,cs[i]?=some x/\k=ck x.1/\v=.ref x.2.1:=by
 unfold fJ at h
 rw [getElem?_map] at h
 cases e:cs[i]? with
 | none=>rw [e] at h;cases h
 | some x=>rw [e] at h;cases h;exact ⟨x,rfl,rfl,rfl⟩
theorem rK{t:bH}(T:b7 K mg t):bL P w K mg base hJ 1 t.cS.f t.cS.fd ["self"] (j7 t K):=by
 refine T.cS.F.ok gM (fun vs H Q E h=>?_) (fun cdv A outer s H vs Q E hr h=>?_)
 ·obtain ⟨s,p,bC,cl,bg,hs,g,rfl,_⟩:=h
  rfl
 ·obtain ⟨S,p,bC,cl,bg,hs,g,rfl,A1,hc,q⟩:=h
  refine ⟨_,(aE (aM (KZ (aZ T.aO.cl T.iI (pv 0)) (qC (jI (Q4 rfl) (by rfl) T.Sb QS (aA (Qn (QB (own:=[("share",1)]) rfl gM.nd (NN (aZ T.aO.cl T.iS (pv 0))) (show Dk kG (aI gT) _ _ from FV (by decide +kernel)) (fun _ _ _ _ _=>i8 (i:=1) gM.nd rfl (Or.inl rfl)) (fun _ _ _ _ _=>Qp) (fun _ _ _ _ _=>(ec sP (jI (LW (K:=K) rfl) (by rfl) T.f_ PySem.boot_len (aA (aZ T.bV.cl T.eB (pv 1)) aF)) aG)))) aF)))))),?_⟩
  refine ⟨_,rfl,g.a,g.dx,_,_,rfl,A1.obj,rfl,_,rfl,aQ (fun z=>?_) fun z=>?_⟩
  ·have:=q H (fun _ _ e=>e)
   rw [z] at this
   exact this
  refine ⟨g.nL,_,A1.p9,trivial,fun od=>?_⟩
  have na:g.a≠g.nL:=cX A1.obj A1.p9 nofun
  generalize eH1:a6 H g.nL _=H1
  have k1:∀ b o,H b=some o->b≠g.nL->H1 b=some o:=fun b o e n=>by rw [<-eH1,aJ n];exact e
  have f1:H1 g.nL=some (.mH od (.dK (fJ g.cs))):=eH1▸aD
  refine ⟨_,rfl,g.a,g.dx,_,_,rfl,k1 _ _ A1.obj na,rfl,g.nL,od,_,rfl,f1,fun D nD=>?_⟩
  have s2:∀ o,aK H1 (a6 H1 D o):=fun o=>aK.new nD
  refine PY (d:=g.nL) (o:=od) (kvs:=fJ g.cs) (fun i H'=>H'=a6 H1 D (.lst (((g.cs.take i).map fun x=>!(a7 p x.1).things.isEmpty).map V.bl))) rfl (fun i H' e=>by rw [e];exact s2 _ _ _ f1) ?_ ?_
  ·rintro i k x H' hi rfl
   obtain ⟨y,hy,rfl,rfl⟩:=Ru hi
   obtain ⟨sdx,as,h1,h2,h3⟩:=A1.sh y (List.mem_of_getElem? hy)
   have n1:y.2.1≠g.nL:=cX h1 A1.p9 nofun
   have n2:y.2.2≠g.nL:=cX h2 A1.p9 nofun
   refine ⟨rfl,QQ ?_⟩
   refine ⟨_,rfl,y.2.1,sdx,_,_,rfl,s2 _ _ _ (k1 _ _ h1 n1),rfl,y.2.2,_,rfl,.inl (cT.of (s2 _ _ _ (k1 _ _ h2 n2))),_,_,rfl,rfl,_,aD,?_,?_⟩
   ·rw [length_map,length_map,length_take,sizeLine_eq];omega
   ·rw [bU,List.take_add_one,hy]
    have:decide ((0:Int)<((as.map V.ref).length:Int))=!(a7 p y.1).things.isEmpty:=by
     rw [length_map,h3.len]
     cases (a7 p y.1).things with
     | nil=>rfl
     | cons _ _=>show decide _=true;rw [decide_eq_true_eq,length_cons];omega
    rw [map_append,map_append]
    show a6 H1 D (.lst (_++[V.bl (decide _)]))=_
    rw [this];rfl
  ·rintro H' rfl
   have el:(g.cs.take (fJ g.cs).length)=g.cs:=by unfold fJ;rw [length_map,List.take_length]
   rw [el]
   refine ⟨s2 _ _ _ f1,D,(g.cs.map fun x=>!(a7 p x.1).things.isEmpty),rfl,?_,?_⟩
   ·refine cT.of ?_
    rw [aJ (fun zz=>by rw [zz,f1] at nD;cases nD),aD]
   ·have:=q (a6 (a6 H1 D (.lst ((g.cs.map fun x=>!(a7 p x.1).things.isEmpty).map V.bl))) g.nL (.dK (fJ g.cs))) ?_
    ·rw [z,Bool.false_or] at this
     have e:(g.cs.map fun x=>!(a7 p x.1).things.isEmpty).any id=g.cs.any fun x=>!(a7 p x.1).things.isEmpty:=by rw [List.any_map];rfl
     rw [e]
     exact this
    ·intro b o e
     by_cases zz:b=g.nL
     ·subst zz;rw [aD];rw [A1.p9] at e;exact e
     ·rw [aJ zz];exact s2 _ _ _ (k1 _ _ e zz)
theorem P_{t:bH}{H:Hp}{s:SgPage.Style}{p:Sofar}{bC cl:Addr}{bg:Bool}{g:Pa}(A:a9 t H s p bC cl bg (hasSolid p.things) g)(nd:(p.classes.map (·.cls)).Nodup):(hasSolid p.things||g.cs.any fun x=>!(a7 p x.1).things.isEmpty)=!isBare p:=by
 have e:(
  g.cs.any fun x=>!(a7 p x.1).things.isEmpty)=!(p.classes.all fun (x:OnPage)=>x.things.isEmpty):=by
  cases h:p.classes.all fun (x:OnPage)=>x.things.isEmpty with
  | true =>
   show _=false
   rw [List.any_eq_false]
   intro x hx
   rcases Ay (p:=p) (c:=x.1) with hm|hm
   ·have:=all_eq_true.mp h _ hm
    rw [this];simp
   ·rw [hm];simp
  | false =>
   show _=true
   obtain ⟨o,ho,hne⟩:=List.all_eq_false.mp h
   have hc:=A.cov o ho
   obtain ⟨x,hx,hxo⟩:=mem_map.mp hc
   rw [List.any_eq_true]
   refine ⟨x,hx,?_⟩
   have:a7 p x.1=o:=by
    rw [hxo]
    unfold a7 classOn
    have:∀ (l:List OnPage),(l.map (·.cls)).Nodup->o∈l->l.find? (fun y=>y.cls==o.cls)=some o:=by
     intro l
     induction l with
     | nil=>intro _ h;cases h
     | cons y r ih =>
      intro hn hm
      rw [map_cons,List.nodup_cons] at hn
      rcases mem_cons.mp hm with rfl|hm
      ·rw [List.find?_cons_of_pos (by simp)]
      ·rw [List.find?_cons_of_neg,ih hn.2 hm]
       intro z
       exact hn.1 (mem_map.mpr ⟨o,hm,(by simpa using z:y.cls=o.cls).symm⟩)
    rw [this _ nd ho];rfl
   rw [this]
   simpa using hne
 rw [e]
 unfold isBare
 cases hasSolid p.things<;>cases p.classes.all fun (x:OnPage)=>x.things.isEmpty<;>rfl
structure Ki(l:List Thing):Prop where
 r:l.all (right 7)=true
 tt:gA l<=2000
 len:l.length<=2000
theorem Ki.ord{l k:List Thing}(h:Ki l)(x:k.Sublist l):oC k:=fun y hy=>Aq (rT h.r y (x.subset hy))
theorem PD{s:SgPage.Style}{p:Sofar}{c:Nat}(SO:dI s)(O:M_ p c)(h:0<eK s p c):Le (eK s p c) 1152921504606846976:=by
 obtain ⟨f0,f1,f2,f3⟩:=SO.at c
 obtain ⟨a1,a2⟩:=O.high
 obtain ⟨b1,b2⟩:=iN f3
 refine ⟨by omega,?_⟩
 unfold eK
 split<;>omega
theorem g_.skip{g g':Pa}{H H1 H2:Hp}{b:Addr}(x:g_ g g' H H1)(k:∀ c o,H1 c=some o->c≠b->H2 c=some o)(n:H b=none):g_ g g' H H2 :=
 ⟨x.1,fun c o e hc=>k c o (x.2.1 c o e hc) (aH e n),x.2.2.1,x.2.2.2⟩
inductive wA(t:bH)(K:Frag)(vs:List V)(H:Hp)(Q:VK)(E:XK):Prop
 | mk:∀ (c:Nat) (ka sa tl b:Addr) (gg:Glue) (d k:Int) (l:List Thing) (s:SgPage.Style) (p:Sofar) (bC cl:Addr) (bg hs:Bool) (g:Pa),vs=[.ref g.a,.ref ka,.ref sa,.ref b]->a9 t H s p bC cl bg hs g->iE t H ka (classOf s c)->(c,sa,tl)∈g.cs->bQ t H b (.insert c gg d k l)->Ki l->M_ p c->dI s->p.waiting.length<=1000000->(qB s p c l gg d=none->∀ H',aK H H'->Q (.bl false) H')->(∀ x,qB s p c l gg d=some x->∀ H' g',g_ g g' H H'->g'.cs.length=g.cs.length->a9 t H' s { cK s p c x.1 true with waiting:=p.waiting++[.insert c gg d k x.2.2],extra:=p.extra+x.2.1 } bC cl bg hs g'->Q (.bl true) H')->wA t K vs H Q E
theorem E6{t:bH}(T:b7 K mg t):bL P w K mg base hJ 8 t.j6.f t.j6.fd ["page","style","share","insertion"] (wA t K):=by
 refine T.j6.F.ok pC (fun vs H Q E h=>?_) (fun cdv A outer s H vs Q E hr h=>?_)
 ·obtain ⟨c,ka,sa,tl,b,gg,d,k,l,s,p,bC,cl,bg,hs,g,rfl,_⟩:=h
  rfl
 ·obtain ⟨c,ka,sa,tl,b,gg,d,k,l,S,p,bC,cl,bg,hs,g,rfl,A1,hK,hx,hB,IO,OO,SO,hwl,qn,qs⟩:=h
  refine ⟨_,(aB (a_ (PW.pt (kX (c2 (aZ T.bV.cl T.fF (pv 2))) (jD (c2 (aZ T.bK.cl T.oN (pv 1)))))) (aE (aM mG)) aR) (aB (sv 4 pC.nd (cf (J6 T) T.rJ hr aV (aA (pv 0) (aA (pv 1) (aA (pv 2) aF))))) (aB (a_ (tc pT (pv 4) aG) (aE (aM mG)) aR) (aB (sv 5 pC.nd (cf (GU T) T.lR hr aV (aA (JA T.aP.cl T.iP (pv 3)) (aA (pv 4) (aA (cf (zO T) T.fI hr aV (aA (pv 3) aF)) (aA (cf (Aw T) T.gG hr aV (aA (pv 3) aF)) aF)))))) (aB (a_ (rY (CI (pv 5))) (aE (aM mG)) aR) (aB (bJ (cf (Cm T) T.vC hr aV (aA (pv 0) (aA (pv 1) (aA (pv 2) (aA (aZ T.fD.cl T.pB (pv 5)) aF)))))) (aB (gL T.aO.cl T.jJ (pv 0) (aZ T.fD.cl T.sR (pv 5)) m9) (aB (bJ (yM PySem.F.plainAttrs_list PySem.F.slot_list_append PySem.F.type_list_append j1 (aZ T.aO.cl T.jM (pv 0)) (aA (cf (AV T) T.gN hr aV (aA (pv 3) (aA (aZ T.fD.cl T.B6 (pv 5)) aF))) aF))) (aB (bT T.bV.cl T.fF (pv 2) mG) (aE (aM mG))))))))))),?_⟩
  obtain ⟨kdx,sl,hk1,hk2⟩:=id hK
  obtain ⟨sdx,bs,h1,h2,h3⟩:=A1.sh _ hx
  refine ⟨_,rfl,sa,sdx,_,_,rfl,h1,rfl,_,rfl,aQ (fun z=>oB ?_) fun z=>⟨_,rfl,ka,kdx,_,_,rfl,hk1,rfl,_,rfl,aQ (fun z2=>?_) fun z2=>?_⟩⟩
  ·refine qn ?_ H (fun _ _ e=>e)
   unfold qB;rw [if_neg];rintro ⟨e,_⟩;rw [z] at e;cases e
  ·refine qn ?_ H (fun _ _ e=>e)
   unfold qB;rw [if_neg];rintro ⟨_,e,_⟩;rw [z2] at e;cases e
  refine ⟨_,rfl,_,rfl,_,rfl,c,ka,sa,tl,S,p,bC,cl,bg,hs,g,rfl,A1,hK,hx,SO,?_⟩
  refine ⟨_,rfl,_,_,rfl,rfl,_,rfl,aQ (fun z3=>?_) fun z3=>?_⟩
  ·refine qn ?_ H (fun _ _ e=>e)
   have:=of_decide_eq_true z3
   unfold qB;rw [if_neg];rintro ⟨_,_,e⟩;omega
  have z3:0<eK S p c:=by have:=of_decide_eq_false z3;omega
  have ep:qB S p c l gg d=CC (eK S p c) d gg l:=by unfold qB;rw [if_pos ⟨z,z2,z3⟩]
  rw [ep] at qn qs
  refine ⟨_,rfl,b,c,gg,d,k,l,rfl,hB,fun il as hz hT=>⟨_,rfl,_,rfl,b,c,gg,d,k,l,rfl,hB,_,rfl,b,c,gg,d,k,l,rfl,hB,fun gl ngl=>?_⟩⟩
  generalize eH1:a6 H gl _=H1
  have s1:aK H H1:=eH1▸aK.new ngl
  have e1:H1 gl=some (.lst (eU gg)):=eH1▸aD
  have hlen:=IO.len
  refine ⟨il,gl,as,l,_,d,gg,rfl,(hz.fix (t:=t) s1.fix).sq,hT.fix s1.fix,.inl e1,⟨rT IO.r,by omega,PD SO OO z3⟩,by omega,fun H2 s2=>⟨fun hn=>?_,fun u kk r hs' a dx ul rl us rs f1 n1 n2 n3 f2 f3 T1 T2=>?_⟩⟩
  ·refine ⟨_,rfl,_,rfl,aQ (fun z4=>?_) fun z4=>absurd z4 (by decide)⟩
   exact qn hn H2 (s1.trans s2)
  refine ⟨_,rfl,_,rfl,aQ (fun z4=>absurd (of_decide_eq_true z4) nofun) fun z4=>?_⟩
  have u2:aK H H2:=s1.trans s2
  have A2:=A1.same u2
  obtain ⟨ci,eci⟩:=EJ hs'
  have eu:u=l.take ci:=(Prod.mk.inj eci).1
  have er:r=eC gg (l.drop (ci+1)):=(Prod.mk.inj (Prod.mk.inj eci).2).2
  have hul:=(A1.same s1).new n1
  have hrl:=(A1.same s1).new n2
  refine ⟨_,rfl,_,rfl,_,rfl,_,rfl,a,dx,_,_,rfl,f1,rfl,c,ka,sa,tl,ul,us,u,S,p,bC,cl,bg,hs,g,rfl,A2,hK.fix u2.fix,hx,.inl f2,hul.1,T1,?_,?_,OO,SO,fun H3 g3 tl3 r3 hx3 hl3 A3=>?_⟩
  ·rw [eu];exact IO.ord (List.take_sublist _ _)
  ·rw [eu,length_take];omega
  rw [z] at A3
  have fx3:iV t H2 H3:=A2.fix T r3
  have hpa:=A2.part T f1
  have f1':=r3.2.1 _ _ f1 hpa
  have o3:H3 g.a=some _:=r3.1▸A3.obj
  refine ⟨_,rfl,g.a,g3.dx,_,_,rfl,o3,rfl,_,rfl,a,dx,_,_,rfl,f1',rfl,_,_,rfl,rfl,g3.dx,_,o3,sm 13,?_⟩
  have A4:=A3.nums T (p2:={ cK S p c u false with extra:=p.extra+kk }) (bg2:=bg) (hs2:=hs) rfl rfl rfl rfl
  rw [r3.1] at A4
  have ex:(cK S p c u false).extra=p.extra:=(dZ S p c).2.1
  have hga:g.a∈g3.fp:=by rw [<-r3.1];exact (eP (g:=g3)).1
  have r4:g_ g3 g3 H3 _:=g_.chg (o:=.ins t.cW g3.dx (pgF bC cl (cK S p c u false).goal (cK S p c u false).sum (cK S p c u false).depth g3.str (cK S p c u false).shrink g3.th bg hs g3.nL (p.extra+kk) g3.wt)) hga
  show OB _ _ _ _ (a6 H3 g.a (.ins t.cW g3.dx (pgF bC cl (cK S p c u false).goal (cK S p c u false).sum (cK S p c u false).depth g3.str (cK S p c u false).shrink g3.th bg hs g3.nL ((cK S p c u false).extra+kk) g3.wt)))
  rw [ex]
  replace A4:a9 t (a6 H3 g.a (.ins t.cW g3.dx (pgF bC cl (cK S p c u false).goal (cK S p c u false).sum (cK S p c u false).depth g3.str (cK S p c u false).shrink g3.th bg hs g3.nL (p.extra+kk) g3.wt))) S { cK S p c u false with extra:=p.extra+kk } bC cl bg hs g3:=A4
  generalize a6 H3 g.a (.ins t.cW g3.dx (pgF bC cl (cK S p c u false).goal (cK S p c u false).sum (cK S p c u false).depth g3.str (cK S p c u false).shrink g3.th bg hs g3.nL (p.extra+kk) g3.wt))=H4 at A4 r4 ⊢
  have r24:=r3.trans r4
  have fx4:iV t H2 H4:=A2.fix T r24
  have o4:H4 g.a=some _:=r3.1▸A4.obj
  have f1'':=r24.2.1 _ _ f1 hpa
  have f3':=r24.2.1 _ _ f3 hrl.1
  obtain ⟨wts,hw1,hw2⟩:=A4.owt
  have hw2:aL t H4 wts (aT S p c).waiting:=hw2
  rw [(dZ S p c).1] at hw2
  have hrall:r.all (fits 8)=true:=by rw [er];exact En (fun _=>rfl) (D6 (List.drop_sublist _ _) (sA IO.r))
  have hrtot:gA r<16000000:=by
   rw [er]
   have:=Ew gg (l.drop (ci+1))
   have:=kJ (List.drop_sublist (ci+1) l)
   have:=IO.tt
   omega
  have hrl4:rl∉g3.fp/\rl∉g3.tls:=by
   refine ⟨fun hh=>?_,fun hh=>?_⟩
   ·rcases r24.2.2.1 _ hh with q|q
    ·exact hrl.1 q
    ·rw [f3] at q;cases q
   ·rcases r24.2.2.2 _ hh with q|q|q
    ·exact hrl.2 q
    ·exact hrl.1 q
    ·rw [f3] at q;cases q
  refine ⟨_,rfl,g.a,g3.dx,_,_,rfl,o4,rfl,.inl ⟨rfl,_,cT.of hw1⟩,_,rfl,_,rfl,a,dx,_,_,rfl,f1'',rfl,b,rl,rs,c,gg,d,k,l,r,rfl,(hB.fix u2.fix).fix fx4,f3',T2.fix fx4,hrall,hrtot,fun q5 H5 kp5 n5 hz5 hT5=>?_⟩
  have u5:bG [rl] H4 H5:=fun b o e n=>kp5 b o e (by simpa using n)
  have A5:=A4.fC T f3' u5 hrl4.1 hrl4.2
  have fx5:iV t H4 H5:=u5.fix fun c hc o e=>by simp at hc;subst hc;rw [f3'] at e;cases e;exact kY
  have hwr:g3.wt≠rl:=fun zz=>hrl4.1 (by rw [<-zz];exact (eP (g:=g3)).2.2.2.2)
  have hw5:=kp5 _ _ hw1 hwr
  refine ⟨g3.wt,_,_,rfl,rfl,hw5,?_,?_⟩
  ·rw [length_map,hw2.len,sizeLine_eq];omega
  have A6:a9 t (a6 H5 g3.wt (.lst (wts.map V.ref++[.ref q5]))) S { cK S p c u false with extra:=p.extra+kk,waiting:=p.waiting++[.insert c gg d k r] } bC cl bg hs g3:=by
   refine A5.list T (b:=g3.wt) hw5 (.inr (.inr rfl)) ?_ ?_ ?_ rfl rfl rfl rfl rfl rfl
   ·rw [if_neg (Ne.symm A5.n2)]
   ·rw [if_neg (Ne.symm A5.n3)]
   ·rw [if_pos rfl]
    exact ⟨wts++[q5],by simp,(hw2.fix fx5).append (aL.one hT5)⟩
  have r6:g_ g3 g3 H5 _:=g_.chg (o:=.lst (wts.map V.ref++[.ref q5])) (eP (g:=g3)).2.2.2.2
  generalize a6 H5 g3.wt (.lst (wts.map V.ref++[.ref q5]))=H6 at A6 r6 ⊢
  have ocl:(a7 p c).cls=c:=qU p c
  have eoc:∀ (q:Sofar),q.classes=(cK S p c u false).classes->a7 q c={ a7 p c with things:=(a7 p c).things++u,high:=(a7 p c).high+tall u,closed:=false }:=by
   intro q hq
   rw [Il (cK S p c u false) hq]
   have:=IS { aT S p c with goal:=(aT S p c).goal - counted (classOf S c).factor (tall u) } { a7 p c with things:=(a7 p c).things++u,high:=(a7 p c).high+tall u,closed:=false }
   rw [show (OnPage.cls { a7 p c with things:=(a7 p c).things++u,high:=(a7 p c).high+tall u,closed:=false })=c from ocl] at this
   exact this
  have yy:kW t H6 sa tl3 (a7 (cK S p c u false) c):=A6.sh _ hx3
  rw [eoc _ rfl] at yy
  obtain ⟨sdx6,cs6,y1,y2,y3⟩:=yy
  have nst:sa≠tl3:=cX y1 y2 nofun
  refine ⟨_,rfl,sa,sdx6,_,rfl,y1,sm 3,?_⟩
  have fx7:∀ o,iV t H6 (a6 H6 sa o):=fun o=>iV.chg y1 T.vL
  obtain ⟨A8,r8,hx8⟩:=A6.share T (p2:={ cK S p c u true with waiting:=p.waiting++[.insert c gg d k r],extra:=p.extra+kk }) hx3 (fun b o e n=>by rw [aJ n];exact e) (tl':=tl3) (o':={ a7 p c with things:=(a7 p c).things++u,high:=(a7 p c).high+tall u,closed:=true })
   ⟨sdx6,cs6,aD,(aJ (Ne.symm nst)).trans y2,y3.fix (fx7 (.ins t.iC sdx6 (shF tl3 ((a7 p c).high+tall u) true)))⟩ (.inl rfl)
   (by
    show a7 (cK S p c u true) c=_
    have:=IS { aT S p c with goal:=(aT S p c).goal - counted (classOf S c).factor (tall u) } { a7 p c with things:=(a7 p c).things++u,high:=(a7 p c).high+tall u,closed:=true }
    rw [show (OnPage.cls { a7 p c with things:=(a7 p c).things++u,high:=(a7 p c).high+tall u,closed:=true })=c from ocl] at this
    exact this)
   (fun dd hd=>by
    show a7 (cK S p c u true) dd=a7 (cK S p c u false) dd
    unfold cK
    rw [qT _ _ (by show dd≠(a7 p c).cls;rw [ocl];exact hd),qT _ _ (by show dd≠(a7 p c).cls;rw [ocl];exact hd)])
   (fun o ho=>by
    rcases DY (p:={ aT S p c with goal:=(aT S p c).goal - counted (classOf S c).factor (tall u) }) ho with h|⟨o2,ho2,h⟩
    ·exact .inl (by rw [h];exact ocl)
    ·by_cases hoc:o2.cls=c
     ·exact .inl (by rw [<-h];exact hoc)
     ·refine .inr ⟨o2,?_,h⟩
      show o2∈(SgPage.setClass _ _).classes
      unfold SgPage.setClass
      refine mem_append.mpr (.inl (List.mem_filter.mpr ⟨ho2,?_⟩))
      show (o2.cls !=(a7 p c).cls)=true
      rw [ocl];simpa using hoc) rfl rfl rfl rfl rfl rfl rfl rfl
  refine qs (u,kk,r) hs' _ _ ?_ ?_ A8
  ·exact ((g_.skip ((g_.of_same (g:=g) u2).trans r24) kp5 (s1.free n2)).trans r6).trans r8
  ·show (List.map _ _).length=_;rw [length_map];exact hl3
theorem i5(H:Hp):aK H H:=fun _ _ e=>e
def yB(s:SgPage.Style)(p:Sofar)(c:Nat)(gg:Glue)(d k:Int)(l:List Thing):Sofar:=if isBare p=true/\(a7 p c).closed=false then cK s p c l true
 else SgPage.setClass { p with waiting:=p.waiting++[.insert c gg d k l],extra:=p.extra+k } { a7 p c with closed:=true }
inductive p6(t:bH)(K:Frag)(vs:List V)(H:Hp)(Q:VK)(E:XK):Prop
 | mk:∀ (c:Nat) (ka sa tl b:Addr) (gg:Glue) (d k:Int) (l:List Thing) (s:SgPage.Style) (p:Sofar) (bC cl:Addr) (bg:Bool) (g:Pa),vs=[.ref g.a,.ref ka,.ref sa,.ref b]->a9 t H s p bC cl bg (hasSolid p.things) g->iE t H ka (classOf s c)->(c,sa,tl)∈g.cs->bQ t H b (.insert c gg d k l)->Ki l->M_ p c->dI s->p.waiting.length<=1000000->g.cs.length<100000->(p.classes.map (·.cls)).Nodup->(∀ H' g',g_ g g' H H'->g'.cs.length=g.cs.length->a9 t H' s (yB s p c gg d k l) bC cl bg (hasSolid p.things) g'->Q .eX H')->p6 t K vs H Q E
structure L4(pm pf:Sofar)(c:Nat):Prop where
 on:a7 pf c={ a7 pm c with closed:=true }
 ot:∀ d,d≠c->a7 pf d=a7 pm d
 cv:∀ o∈pf.classes,o.cls=c\/∃ o2∈pm.classes,o2.cls=o.cls
 e1:pf.stretch=pm.stretch
 e2:pf.things=pm.things
 e3:pf.waiting=pm.waiting
 e5:pf.goal=pm.goal
 e6:pf.sum=pm.sum
 e7:pf.depth=pm.depth
 e8:pf.shrink=pm.shrink
 e9:pf.extra=pm.extra
theorem Jc(p:Sofar)(x:OnPage){c:Nat}(h:x.cls=c):a7 (SgPage.setClass p x) c=x:=by subst h;exact IS p x
theorem E_{pm:Sofar}{c:Nat}:L4 pm (SgPage.setClass pm { a7 pm c with closed:=true }) c:=by
 have ocl:(a7 pm c).cls=c:=qU pm c
 refine ⟨Jc _ _ ocl,fun d hd=>qT _ _ (by show d≠(a7 pm c).cls;rw [ocl];exact hd),fun o ho=>?_,rfl,rfl,rfl,rfl,rfl,rfl,rfl,rfl⟩
 rcases DY ho with h|h
 ·exact .inl (by rw [h];exact ocl)
 ·exact .inr h
theorem LA{s:SgPage.Style}{p:Sofar}{c:Nat}{l:List Thing}{b:Bool}:L4 (cK s p c l b) (cK s p c l true) c:=by
 have ocl:(a7 p c).cls=c:=qU p c
 refine ⟨?_,fun d hd=>?_,fun o ho=>?_,rfl,rfl,rfl,rfl,rfl,rfl,rfl,rfl⟩
 ·have e1:a7 (cK s p c l true) c={ a7 p c with things:=(a7 p c).things++l,high:=(a7 p c).high+tall l,closed:=true }:=Jc _ _ ocl
  have e2:a7 (cK s p c l b) c={ a7 p c with things:=(a7 p c).things++l,high:=(a7 p c).high+tall l,closed:=b }:=Jc _ _ ocl
  rw [e1,e2]
 ·unfold cK
  rw [qT _ _ (by show d≠(a7 p c).cls;rw [ocl];exact hd),qT _ _ (by show d≠(a7 p c).cls;rw [ocl];exact hd)]
 ·rcases DY (p:={ aT s p c with goal:=(aT s p c).goal - counted (classOf s c).factor (tall l) }) ho with h|⟨o2,ho2,h⟩
  ·exact .inl (by rw [h];exact ocl)
  ·by_cases hoc:o2.cls=c
   ·exact .inl (by rw [<-h];exact hoc)
   ·refine .inr ⟨o2,?_,h⟩
    show o2∈(SgPage.setClass _ _).classes
    unfold SgPage.setClass
    refine mem_append.mpr (.inl (List.mem_filter.mpr ⟨ho2,?_⟩))
    show (o2.cls !=(a7 p c).cls)=true
    rw [ocl];simpa using hoc
theorem Ph{g:Pa}{c:Nat}{sa tl:Addr}(hx:(c,sa,tl)∈g.cs):sa∈g.fp:=by
 unfold Pa.fp
 simp only [mem_cons,mem_map]
 exact .inr (.inr (.inr (.inr (.inr ⟨_,hx,rfl⟩))))
theorem Fz.QC{t:bH}(T:b7 K mg t){H:Hp}{s:SgPage.Style}{p:Sofar}{bC cl:Addr}{bg hs:Bool}{g:Pa}{il:Addr}{xs:List V}(A:a9 t H s p bC cl bg hs g)(h:Fz H il xs):il∉g.fp:=by
 intro hb
 obtain ⟨od,e⟩:=h
 exact A.nc T il hb _ e (.inl ⟨_,_,rfl⟩)
theorem B5{t:bH}(T:b7 K mg t):bL P w K mg base hJ 5 t.gI.f t.gI.fd ["page","style","share","insertion"] (p6 t K):=by
 refine T.gI.F.ok Ba (fun vs H Q E h=>?_) (fun cdv A outer s H vs Q E hr h=>?_)
 ·obtain ⟨c,ka,sa,tl,b,gg,d,k,l,s,p,bC,cl,bg,g,rfl,_⟩:=h
  rfl
 ·obtain ⟨c,ka,sa,tl,b,gg,d,k,l,S,p,bC,cl,bg,g,rfl,A1,hK,hx,hB,IO,OO,SO,hwl,hcl,hnd,q⟩:=h
  refine ⟨_,(gZ (a_ (PW.pt (kX (c2 (aZ T.bV.cl T.fF (pv 2))) (jD (c2 (dN (pv 0) T.aO.cl T.cS.m (rK T) hr.m T.cS.b .nil aV))))) (aB (bJ (yM PySem.F.plainAttrs_list PySem.F.slot_list_append PySem.F.type_list_append j1 (aZ T.aO.cl T.jM (pv 0)) (aA (pv 3) aF))) (aE (gL T.aO.cl T.jJ (pv 0) (cf (AJ T) T.gD hr aV (aA (pv 3) aF)) m9))) (aE (bJ (cf (Cm T) T.vC hr aV (aA (pv 0) (aA (pv 1) (aA (pv 2) (aA (JA T.aP.cl T.iP (pv 3)) aF)))))))) (aE (bT T.bV.cl T.fF (pv 2) mG))),?_⟩
  obtain ⟨sdx,bs,h1,h2,h3⟩:=A1.sh _ hx
  have hlen:=IO.len
  refine ⟨fun σ' H'=>σ'=[some (.ref g.a),some (.ref ka),some (.ref sa),some (.ref b)]/\∃ (pm:Sofar) (g':Pa) (tl':Addr),g_ g g' H H'/\(c,sa,tl')∈g'.cs/\g'.cs.length=g.cs.length/\a9 t H' S pm bC cl bg (hasSolid p.things) g'/\L4 pm (yB S p c gg d k l) c,?_,?_⟩
  ·refine ⟨_,rfl,sa,sdx,_,_,rfl,h1,rfl,_,rfl,aQ (fun z=>oB ?_) fun z=>?_⟩
   ·have ew:yB S p c gg d k l=SgPage.setClass { p with waiting:=p.waiting++[.insert c gg d k l],extra:=p.extra+k } { a7 p c with closed:=true }:=by
     unfold yB;rw [if_neg];rintro ⟨e0,e1⟩;rw [z] at e1;cases e1
    have A2:=A1.same (i5 H)
    obtain ⟨wts,hw1,hw2⟩:=A2.owt
    refine ⟨_,rfl,g.a,g.dx,_,_,rfl,A2.obj,rfl,.inl ⟨rfl,_,cT.of hw1⟩,_,rfl,g.wt,_,_,rfl,rfl,hw1,?_,?_⟩
    ·rw [length_map,hw2.len,sizeLine_eq];omega
    have A3:a9 t (a6 H g.wt (.lst (wts.map V.ref++[.ref b]))) S { p with waiting:=p.waiting++[.insert c gg d k l] } bC cl bg (hasSolid p.things) g:=by
     refine A2.list T (b:=g.wt) hw1 (.inr (.inr rfl)) ?_ ?_ ?_ rfl rfl rfl rfl rfl rfl
     ·rw [if_neg (Ne.symm A2.n2)]
     ·rw [if_neg (Ne.symm A2.n3)]
     ·rw [if_pos rfl]
      exact ⟨wts++[b],by simp,hw2.append (aL.one (hB.fix (i5 H).fix))⟩
    have r3:g_ g g H _:=g_.chg (o:=.lst (wts.map V.ref++[.ref b])) (eP (g:=g)).2.2.2.2
    have r3':=(g_.of_same (g:=g) (i5 H)).trans r3
    have fx3:=A1.fix T r3'
    refine ⟨_,rfl,g.a,g.dx,_,_,rfl,A3.obj,rfl,_,rfl,b,c,gg,d,k,l,rfl,hB.fix fx3,_,_,rfl,rfl,g.dx,_,A3.obj,sm 13,rfl,{ p with waiting:=p.waiting++[.insert c gg d k l],extra:=p.extra+k },g,tl,r3'.trans (g_.chg (eP (g:=g)).1),hx,rfl,A3.nums T (p2:={ p with waiting:=p.waiting++[.insert c gg d k l],extra:=p.extra+k }) rfl rfl rfl rfl,?_⟩
    rw [ew]
    exact E_ (pm:={ p with waiting:=p.waiting++[.insert c gg d k l],extra:=p.extra+k })
   ·refine ⟨_,rfl,g.a,g.dx,_,rfl,A1.obj,rfl,S,p,bC,cl,bg,_,g,rfl,A1,hcl,fun H2 s2=>⟨_,rfl,?_⟩⟩
    rw [P_ A1 hnd]
    refine aQ (fun z2=>?_) fun z2=>?_
    ·have ew:yB S p c gg d k l=SgPage.setClass { p with waiting:=p.waiting++[.insert c gg d k l],extra:=p.extra+k } { a7 p c with closed:=true }:=by
      unfold yB;rw [if_neg];rintro ⟨e0,e1⟩;rw [e0] at z2;cases z2
     have A2:=A1.same s2
     obtain ⟨wts,hw1,hw2⟩:=A2.owt
     refine ⟨_,rfl,g.a,g.dx,_,_,rfl,A2.obj,rfl,.inl ⟨rfl,_,cT.of hw1⟩,_,rfl,g.wt,_,_,rfl,rfl,hw1,?_,?_⟩
     ·rw [length_map,hw2.len,sizeLine_eq];omega
     have A3:a9 t (a6 H2 g.wt (.lst (wts.map V.ref++[.ref b]))) S { p with waiting:=p.waiting++[.insert c gg d k l] } bC cl bg (hasSolid p.things) g:=by
      refine A2.list T (b:=g.wt) hw1 (.inr (.inr rfl)) ?_ ?_ ?_ rfl rfl rfl rfl rfl rfl
      ·rw [if_neg (Ne.symm A2.n2)]
      ·rw [if_neg (Ne.symm A2.n3)]
      ·rw [if_pos rfl]
       exact ⟨wts++[b],by simp,hw2.append (aL.one (hB.fix (s2).fix))⟩
     have r3:g_ g g H2 _:=g_.chg (o:=.lst (wts.map V.ref++[.ref b])) (eP (g:=g)).2.2.2.2
     have r3':=(g_.of_same (g:=g) s2).trans r3
     have fx3:=A1.fix T r3'
     refine ⟨_,rfl,g.a,g.dx,_,_,rfl,A3.obj,rfl,_,rfl,b,c,gg,d,k,l,rfl,hB.fix fx3,_,_,rfl,rfl,g.dx,_,A3.obj,sm 13,rfl,{ p with waiting:=p.waiting++[.insert c gg d k l],extra:=p.extra+k },g,tl,r3'.trans (g_.chg (eP (g:=g)).1),hx,rfl,A3.nums T (p2:={ p with waiting:=p.waiting++[.insert c gg d k l],extra:=p.extra+k }) rfl rfl rfl rfl,?_⟩
     rw [ew]
     exact E_ (pm:={ p with waiting:=p.waiting++[.insert c gg d k l],extra:=p.extra+k })
    ·have ew:yB S p c gg d k l=cK S p c l true:=by
      unfold yB;rw [if_pos ⟨by simpa using z2,z⟩]
     have A2:=A1.same s2
     refine ⟨_,rfl,_,rfl,_,rfl,_,rfl,b,c,gg,d,k,l,rfl,hB.fix s2.fix,fun il as hz hT=>?_⟩
     refine ⟨c,ka,sa,tl,il,as,l,S,p,bC,cl,bg,_,g,rfl,A2,hK.fix s2.fix,hx,hz.rd,hz.QC T A2,hT,IO.ord (List.Sublist.refl _),by omega,OO,SO,fun H3 g3 tl3 r3 hx3 hl3 A3=>⟨rfl,_,g3,tl3,(g_.of_same (g:=g) s2).trans r3,hx3,hl3,A3,?_⟩⟩
     rw [ew];exact LA
  ·rintro σ' H2 ⟨rfl,pm,g2,tl2,r2,hx2,hl2,A2,cl2⟩
   obtain ⟨sdx2,bs2,y1,y2,y3⟩:=A2.sh _ hx2
   have nst:sa≠tl2:=cX y1 y2 nofun
   refine ⟨_,rfl,sa,sdx2,_,rfl,y1,sm 3,?_⟩
   have fx:∀ o,iV t H2 (a6 H2 sa o):=fun o=>iV.chg y1 T.vL
   obtain ⟨A8,r8,hx8⟩:=A2.share T (p2:=yB S p c gg d k l) hx2 (fun b o e n=>by rw [aJ n];exact e) (tl':=tl2) (o':={ a7 pm c with closed:=true })
    ⟨sdx2,bs2,aD,(aJ (Ne.symm nst)).trans y2,y3.fix (fx (.ins t.iC sdx2 (shF tl2 (a7 pm c).high true)))⟩ (.inl rfl) cl2.on cl2.ot cl2.cv cl2.e1 cl2.e2 cl2.e3 cl2.e5 cl2.e6 cl2.e7 cl2.e8 cl2.e9
   exact q _ _ (r2.trans r8) (by show (List.map _ _).length=_;rw [length_map];exact hl2) A8
theorem HA{cs:List (Nat×Addr×Addr)}{c:Nat}{v:V}(h:eM (fJ cs) (ck c)=some v):∃ sa tl,(c,sa,tl)∈cs/\v=.ref sa:=by
 induction cs with
 | nil=>cases h
 | cons x r ih =>
  by_cases e:(ck x.1:fY)=ck c
  ·have h:eM ((ck x.1,V.ref x.2.1)::fJ r) (ck c)=some v:=h
   rw [eY e] at h
   have:x.1=c:=by have:=Sum.inl.inj e;omega
   exact ⟨x.2.1,x.2.2,by subst this;exact List.mem_cons_self,(Option.some.inj h).symm⟩
  ·have h:eM ((ck x.1,V.ref x.2.1)::fJ r) (ck c)=some v:=h
   rw [eI e] at h
   obtain ⟨sa,tl,h1,h2⟩:=ih h
   exact ⟨sa,tl,mem_cons_of_mem _ h1,h2⟩
theorem Mp{cs:List (Nat×Addr×Addr)}{c:Nat}(h:eM (fJ cs) (ck c)=none):c∉cs.map (·.1):=by
 induction cs with
 | nil=>intro q;cases q
 | cons x r ih =>
  by_cases e:(ck x.1:fY)=ck c
  ·have h:eM ((ck x.1,V.ref x.2.1)::fJ r) (ck c)=none:=h
   rw [eY e] at h;cases h
  ·have h:eM ((ck x.1,V.ref x.2.1)::fJ r) (ck c)=none:=h
   rw [eI e] at h
   rw [map_cons,mem_cons]
   rintro (q|q)
   ·exact e (by rw [q])
   ·exact ih h q
theorem OR{cs:List (Nat×Addr×Addr)}{c:Nat}{sa tl:Addr}(h:eM (fJ cs) (ck c)=none):nW (fJ cs) (ck c) (.ref sa)=fJ (cs++[(c,sa,tl)]):=by
 unfold nW
 rw [qZ,h,if_neg (by simp)]
 unfold fJ
 rw [map_append];rfl
theorem a9.OY{t:bH}{H:Hp}{s:SgPage.Style}{p:Sofar}{bC cl:Addr}{bg hs:Bool}{g:Pa}(A:a9 t H s p bC cl bg hs g){c:Nat}{sa tl:Addr}(hc:c∉g.cs.map (·.1))(hS:kW t H sa tl ⟨c,[],0,false⟩)(n1:sa∉g.fp)(n2:tl∉g.fp) :
 a9 t (a6 H g.nL (.dK (fJ (g.cs++[(c,sa,tl)])))) s p bC cl bg hs { g with cs:=g.cs++[(c,sa,tl)] }:=by
 have x:∀ o,iV t H (a6 H g.nL o):=fun o=>iV.chg A.p9 K_
 have k:∀ {b:Addr} {o u:HO},H b=some o->(∀ kvs,o≠.dK kvs)->a6 H g.nL u b=some o:=fun e n=>by rw [aJ (fun z=>by subst z;rw [A.p9] at e;cases e;exact n _ rfl)];exact e
 obtain ⟨as,q1,q2⟩:=A.oth
 obtain ⟨bs,q3,q4⟩:=A.owt
 obtain ⟨kvs,q5,q6⟩:=A.cls
 have mm:∀ y∈g.cs++[(c,sa,tl)],y∈g.cs\/y=(c,sa,tl):=by
  intro y hy
  rcases mem_append.mp hy with h|h
  ·exact .inl h
  ·exact .inr (by simpa using h)
 have shk:∀ {sa tl:Addr} {o:OnPage},kW t H sa tl o->kW t (a6 H g.nL (.dK (fJ (g.cs++[(c,sa,tl)])))) sa tl o:=fun ⟨dx,cs,z1,z2,z3⟩=>⟨dx,cs,k z1 nofun,k z2 nofun,z3.fix (x _)⟩
 have shk':∀ {sa' tl':Addr} {o:OnPage} {u:HO},kW t H sa' tl' o->kW t (a6 H g.nL u) sa' tl' o:=fun ⟨dx,cs,z1,z2,z3⟩=>⟨dx,cs,k z1 nofun,k z2 nofun,z3.fix (x _)⟩
 have edef:a7 p c=⟨c,[],0,false⟩:=by
  rcases Ay (p:=p) (c:=c) with h|h
  ·exact absurd (by have:=A.cov _ h;rw [qU] at this;exact this) hc
  ·exact h
 obtain ⟨m1,m2,m3,m4,m5⟩:=eP (g:=g)
 refine ⟨k A.obj nofun,k A.vW nofun,A.st4,⟨as,k q1 nofun,q2.fix (x _)⟩,⟨bs,k q3 nofun,q4.fix (x _)⟩,aD,fun y hy=>?_,fun o ho=>?_,?_,A.n1,A.n2,A.n3,fun y hy=>?_,fun y hy z hz hyz=>?_,A.bC.fix (x _),⟨kvs,(aJ A.ncl).trans q5,q6.fix (x _)⟩,A.ncl⟩
 ·rcases mm y hy with h|rfl
  ·exact shk' (A.sh y h)
  ·show kW t _ sa tl (a7 p c)
   rw [edef];exact shk' hS
 ·show o.cls∈List.map _ (_++_)
  rw [map_append]
  exact mem_append.mpr (.inl (A.cov o ho))
 ·show (List.map _ (_++_)).Nodup
  rw [map_append,List.nodup_append]
  refine ⟨A.ndc,by simp,fun a ha b hb=>?_⟩
  simp at hb;subst hb
  exact fun z=>hc (z▸ha)
 ·rcases mm y hy with h|rfl
  ·exact A.n4 y h
  ·exact ⟨fun z=>n2 (by show tl∈_;rw [show tl=g.str from z];exact m2),fun z=>n2 (by show tl∈_;rw [show tl=g.th from z];exact m3),fun z=>n2 (by show tl∈_;rw [show tl=g.wt from z];exact m5)⟩
 ·rcases mm y hy with h|rfl<;>rcases mm z hz with h2|rfl
  ·exact A.n5 y h z h2 hyz
  ·exact fun e=>n1 (by show sa∈_;rw [<-show y.2.1=sa from e];exact Ph (c:=y.1) (tl:=y.2.2) h)
  ·exact fun e=>n1 (by show sa∈_;rw [show sa=z.2.1 from e];exact Ph (c:=z.1) (tl:=z.2.2) h2)
  ·exact absurd rfl hyz
inductive p0(t:bH)(K:Frag)(vs:List V)(H:Hp)(Q:VK)(E:XK):Prop
 | mk:∀ (c:Nat) (b:Addr) (gg:Glue) (d k:Int) (l:List Thing) (s:SgPage.Style) (p:Sofar) (bC cl:Addr) (bg:Bool) (g:Pa),vs=[.ref g.a,.ref b]->a9 t H s p bC cl bg (hasSolid p.things) g->bQ t H b (.insert c gg d k l)->Ki l->M_ p c->dI s->p.waiting.length<=1000000->g.cs.length<90000->(p.classes.map (·.cls)).Nodup->(∀ H' g',g_ g g' H H'->g'.cs.length<=g.cs.length+1->a9 t H' s (iZ s p c l gg d k) bC cl bg (hasSolid p.things) g'->Q .eX H')->p0 t K vs H Q E
theorem AO{t:bH}(T:b7 K mg t):bL P w K mg base hJ 9 t.gO.f t.gO.fd ["page","insertion"] (p0 t K):=by
 refine T.gO.F.ok iG (fun vs H Q E h=>?_) (fun cdv A outer s H vs Q E hr h=>?_)
 ·obtain ⟨c,b,gg,d,k,l,s,p,bC,cl,bg,g,rfl,_⟩:=h
  rfl
 ·obtain ⟨c,b,gg,d,k,l,S,p,bC,cl,bg,g,rfl,A1,hB,IO,OO,SO,hwl,hcl,hnd,q⟩:=h
  refine ⟨_,aB (sv 2 iG.nd (cf (Ae T) T.fG hr aV (aA (pv 1) aF))) (aB (sv 3 iG.nd (cf (E1 T) T.j4 hr aV (aA (aZ T.aO.cl T.sT (pv 0)) (aA (pv 2) aF)))) (gZ (sv 4 iG.nd (MU (aZ T.aO.cl T.iS (pv 0)) (pv 2) (BE T.bV.make (GK T) hr.m rfl T.bV.g T.bV.b .nil aV) ⟨rfl,rfl,rfl,rfl⟩)) (aE (a_ (c2 (cf (F9 T) T.lN hr aV (aA (pv 0) (aA (pv 3) (aA (pv 4) (aA (pv 1) aF)))))) (aE (bJ (cf (Cm T) T.vC hr aV (aA (pv 0) (aA (pv 3) (aA (pv 4) (aA (JA T.aP.cl T.iP (pv 1)) aF))))))) (aE (a_ (jC (c2 (cf (E6 T) T.j6 hr aV (aA (pv 0) (aA (pv 3) (aA (pv 4) (aA (pv 1) aF))))))) (aE (bJ (cf (B5 T) T.gI hr aV (aA (pv 0) (aA (pv 3) (aA (pv 4) (aA (pv 1) aF))))))) aR)))))),?_⟩
  have hlen:=IO.len
  refine ⟨_,rfl,b,c,gg,d,k,l,rfl,hB,?_⟩
  refine ⟨_,rfl,g.a,g.dx,_,_,rfl,A1.obj,rfl,_,rfl,cl,c,S,rfl,A1.cls,fun ka H1 s1 hK=>?_⟩
  have A2:=A1.same s1
  refine ⟨fun σ' H'=>∃ (g':Pa) (sa tl:Addr),σ'=[some (.ref g.a),some (.ref b),some (.int (c:Int)),some (.ref ka),some (.ref sa)]/\g_ g g' H H'/\(c,sa,tl)∈g'.cs/\g'.cs.length<=g.cs.length+1/\a9 t H' S p bC cl bg (hasSolid p.things) g'/\iE t H' ka (classOf S c),?_,?_⟩
  ·refine ⟨_,rfl,g.a,g.dx,_,_,rfl,A2.obj,rfl,g.nL,rfl,.inl ⟨_,.inl A2.p9⟩,_,rfl,fun sa dx nsa nd ne=>⟨sa,dx,rfl,aD,fun H2 tl u2 ntl hS=>⟨rfl,fJ g.cs,ck c,?_,rfl,?_,fun v hv=>?_,fun hn=>?_⟩⟩⟩
   all_goals
    have ntl1:H1 tl=none:=by
     cases z:H1 tl with
     | none=>rfl
     | some o=>rw [aJ (aH z nsa),aJ (aH z nd),z] at ntl;cases ntl
    have s2:aK H1 H2:=Cn (i5 H1) ntl1 nsa nd (u2.mono (by simp))
   ·exact s2 _ _ A2.p9
   ·unfold fJ;rw [length_map,sizeLine_eq];omega
   ·obtain ⟨sa',tl',hx,rfl⟩:=HA hv
    exact ⟨g,sa',tl',rfl,g_.of_same (s1.trans s2),hx,by omega,A2.same s2,hK.fix s2.fix⟩
   ·have hno:=Mp hn
    obtain ⟨w1,w2⟩:=A2.new nsa
    obtain ⟨w3,w4⟩:=A2.new ntl1
    rw [OR (tl:=tl) hn]
    refine ⟨{ g with cs:=g.cs++[(c,sa,tl)] },sa,tl,rfl,⟨rfl,fun bb o e n=>?_,fun bb hb=>?_,fun bb hb=>?_⟩,mem_append.mpr (.inr (by simp)),?_,(A2.same s2).OY hno (hS c) w1 w3,?_⟩
    ·rw [aJ (fun z=>n (by rw [z];exact (eP (g:=g)).2.2.2.1))]
     exact s2 _ _ (s1 _ _ e)
    ·simp only [Pa.fp,map_append,mem_cons,mem_append,map_cons,List.map_nil,not_mem_nil,or_false] at hb ⊢
     rcases hb with h|h|h|h|h|h|h
     ·exact .inl (.inl h)
     ·exact .inl (.inr (.inl h))
     ·exact .inl (.inr (.inr (.inl h)))
     ·exact .inl (.inr (.inr (.inr (.inl h))))
     ·exact .inl (.inr (.inr (.inr (.inr (.inl h)))))
     ·exact .inl (.inr (.inr (.inr (.inr (.inr h)))))
     ·exact .inr (by rw [h];exact s1.free nsa)
    ·simp only [Pa.tls,map_append,mem_append,map_cons,List.map_nil,mem_cons,not_mem_nil,or_false] at hb ⊢
     rcases hb with h|h
     ·exact .inl h
     ·exact .inr (.inr (by rw [h];exact s1.free ntl1))
    ·show (g.cs++[(c,sa,tl)]).length<=_;rw [length_append];simp
    ·exact (hK.fix s2.fix).fix (iV.chg (A2.same s2).p9 K_)
  ·rintro σ' H3 ⟨g3,sa,tl,rfl,r3,hx,hl3,A3,hK3⟩
   have fx3:=A1.fix T r3
   have hB3:=hB.fix fx3
   have ea:=r3.1
   rw [<-ea]
   have q:∀ p2,iZ S p c l gg d k=p2->∀ H' g',g_ g g' H H'->g'.cs.length<=g.cs.length+1->a9 t H' S p2 bC cl bg (hasSolid p.things) g'->Q .eX H':=fun p2 e=>e▸q
   refine ⟨_,rfl,_,rfl,_,rfl,_,rfl,c,ka,sa,tl,b,gg,d,k,l,S,p,bC,cl,bg,_,g3,rfl,A3,hK3,hx,hB3,IO.ord (List.Sublist.refl _),SO,fun H4 s4=>⟨_,rfl,aQ (fun z=>?_) fun z=>?_⟩⟩
   ·have z:=of_decide_eq_true z
    have A4:=A3.same s4
    refine ⟨_,rfl,_,rfl,_,rfl,_,rfl,b,c,gg,d,k,l,rfl,hB3.fix s4.fix,fun il as hz hT=>?_⟩
    refine ⟨c,ka,sa,tl,il,as,l,S,p,bC,cl,bg,_,g3,rfl,A4,hK3.fix s4.fix,hx,hz.rd,hz.QC T A4,hT,IO.ord (List.Sublist.refl _),by omega,OO,SO,fun H5 g5 tl5 r5 hx5 hl5 A5=>?_⟩
    exact q _ (by unfold iZ;rw [if_pos z]) H5 g5 ((r3.trans (g_.of_same (g:=g3) s4)).trans r5) (by omega) A5
   ·have z:=of_decide_eq_false z
    have A4:=A3.same s4
    refine ⟨_,rfl,_,rfl,_,rfl,_,rfl,c,ka,sa,tl,b,gg,d,k,l,S,p,bC,cl,bg,_,g3,rfl,A4,hK3.fix s4.fix,hx,hB3.fix s4.fix,IO,OO,SO,hwl,fun hn H5 s5=>?_,fun x hs H5 g5 r5 hl5 A5=>?_⟩
    ·refine ⟨_,rfl,oB ?_⟩
     have A5:=A4.same s5
     refine ⟨_,rfl,_,rfl,_,rfl,_,rfl,c,ka,sa,tl,b,gg,d,k,l,S,p,bC,cl,bg,g3,rfl,A5,(hK3.fix s4.fix).fix s5.fix,hx,(hB3.fix s4.fix).fix s5.fix,IO,OO,SO,hwl,by omega,hnd,fun H6 g6 r6 hl6 A6=>?_⟩
     refine q _ ?_ H6 g6 ((r3.trans (g_.of_same (g:=g3) (s4.trans s5))).trans r6) (by omega) A6
     unfold iZ yB;rw [if_neg z,hn]
    ·refine ⟨_,rfl,NR ?_⟩
     refine q _ ?_ H5 g5 ((r3.trans (g_.of_same (g:=g3) s4)).trans r5) (by omega) A5
     unfold iZ;rw [if_neg z,hs]
def BI(p:Sofar)(x:Thing):Sofar:={ p with sum:=p.sum+p.depth+bI x,depth:=0 }
inductive Bs(t:bH)(K:Frag)(vs:List V)(H:Hp)(Q:VK)(E:XK):Prop
 | mk:∀ (b:Addr) (x:Thing) (s:SgPage.Style) (p:Sofar) (bC cl:Addr) (bg hs:Bool) (g:Pa),vs=[.ref g.a,.ref b]->a9 t H s p bC cl bg hs g->bQ t H b x->(∀ H',g_ g g H H'->a9 t H' s (BI p x) bC cl bg hs g->Q .eX H')->Bs t K vs H Q E
theorem B3{t:bH}(T:b7 K mg t):bL P w K mg base hJ 1 t.take_size.f t.take_size.fd ["page","thing"] (Bs t K):=by
 refine T.take_size.F.ok Jj (fun vs H Q E h=>?_) (fun cdv A outer s H vs Q E hr h=>?_)
 ·obtain ⟨b,x,s,p,bC,cl,bg,hs,g,rfl,_⟩:=h
  rfl
 ·obtain ⟨b,x,S,p,bC,cl,bg,hs,g,rfl,A1,hB,q⟩:=h
  refine ⟨_,(aB (gL T.aO.cl T.fU (pv 0) (bW iK (aZ T.aO.cl T.eQ (pv 0)) (fZ T.aP.cl T.hW thH (pv 1))) m9) (aE (bT T.aO.cl T.eQ (pv 0) aG))),?_⟩
  refine ⟨_,rfl,g.a,g.dx,_,_,rfl,A1.obj,rfl,_,rfl,g.a,g.dx,_,_,rfl,A1.obj,rfl,_,rfl,b,x,rfl,hB,_,_,rfl,rfl,_,_,rfl,rfl,g.dx,_,A1.obj,sm 13,?_⟩
  have A2:=A1.nums T (p2:={ p with sum:=p.sum+(p.depth+bI x) }) (bg2:=bg) (hs2:=hs) rfl rfl rfl rfl
  refine ⟨_,rfl,g.a,g.dx,_,rfl,A2.obj,sm 13,?_⟩
  have A3:=A2.nums T (p2:={ p with sum:=p.sum+(p.depth+bI x),depth:=0 }) (bg2:=bg) (hs2:=hs) rfl rfl rfl rfl
  refine q _ ((g_.chg (eP (g:=g)).1).trans (g_.chg (eP (g:=g)).1)) ?_
  have e:BI p x={ p with sum:=p.sum+(p.depth+bI x),depth:=0 }:=by unfold BI;rw [Int.add_assoc]
  rw [e]
  exact A3
def pre(p:Sofar)(x:Thing):Sofar:=match x with
 | .kern _=>BI p x
 | .glue g=>addGlue (BI p x) g
 | .leaders g _ _=>addGlue (BI p x) g
 | _=>p
def Dc(p:Sofar)(x:Thing):Sofar:={ pre p x with things:=p.things++[x] }
theorem rF(p:Sofar)(x:Thing):(pre p x).things=p.things/\(pre p x).waiting=p.waiting/\(pre p x).classes=p.classes/\(pre p x).begun=p.begun:=by cases x<;>exact ⟨rfl,rfl,rfl,rfl⟩
inductive x8(t:bH)(K:Frag)(vs:List V)(H:Hp)(Q:VK)(E:XK):Prop
 | mk:∀ (b:Addr) (x:Thing) (s:SgPage.Style) (p:Sofar) (bC cl:Addr) (bg hs:Bool) (g:Pa),vs=[.ref g.a,.ref b]->a9 t H s p bC cl bg hs g->bQ t H b x->Hi x->p.things.length<=1000000->(∀ H',g_ g g H H'->a9 t H' s (Dc p x) bC cl bg hs g->Q .eX H')->x8 t K vs H Q E
theorem a9.app{t:bH}(T:b7 K mg t){H:Hp}{s:SgPage.Style}{p:Sofar}{bC cl:Addr}{bg hs:Bool}{g:Pa}(A:a9 t H s p bC cl bg hs g){as:List Addr}{b:Addr}{x:Thing}(h1:H g.th=some (.lst (as.map V.ref)))(h2:aL t H as p.things)(hB:bQ t H b x) :
 a9 t (a6 H g.th (.lst (as.map V.ref++[.ref b]))) s { p with things:=p.things++[x] } bC cl bg hs g:=by
 refine A.list T (b:=g.th) h1 (.inr (.inl rfl)) ?_ ?_ ?_ rfl rfl rfl rfl rfl rfl
 ·rw [if_neg (Ne.symm A.n1)]
 ·rw [if_pos rfl]
  exact ⟨as++[b],by simp,h2.append (aL.one hB)⟩
 ·rw [if_neg A.n3]
theorem zC{t:bH}(T:b7 K mg t):bL P w K mg base hJ 2 t.jY.f t.jY.fd ["page","thing"] (x8 t K):=by
 refine T.jY.F.ok Gh (fun vs H Q E h=>?_) (fun cdv A outer s H vs Q E hr h=>?_)
 ·obtain ⟨b,x,s,p,bC,cl,bg,hs,g,rfl,_⟩:=h
  rfl
 ·obtain ⟨b,x,S,p,bC,cl,bg,hs,g,rfl,A1,hB,hO,hl,q⟩:=h
  refine ⟨_,(gZ (a_ (tc bY (fZ T.aP.cl T.bS thK (pv 1)) (aW T.Cq)) (aE (bJ (cf (B3 T) T.take_size hr aV (aA (pv 0) (aA (pv 1) aF))))) (aE (a_ (c2 (cf (o_ T) T.lV hr aV (aA (pv 1) aF))) (aB (bJ (cf (B3 T) T.take_size hr aV (aA (pv 0) (aA (pv 1) aF)))) (aE (bJ (cP (pv 0) T.aO.cl T.cO.m (mR T) hr.m T.cO.b .nil aV (aA (cf (tF T) T.gU hr aV (aA (pv 1) aF)) aF))))) aR))) (aE (bJ (yM PySem.F.plainAttrs_list PySem.F.slot_list_append PySem.F.type_list_append j1 (aZ T.aO.cl T.iU (pv 0)) (aA (pv 1) aF))))),?_⟩
  refine ⟨fun σ' H'=>σ'=[some (.ref g.a),some (.ref b)]/\g_ g g H H'/\a9 t H' S (pre p x) bC cl bg hs g,?_,?_⟩
  ·refine ⟨_,rfl,b,x,rfl,hB,rfl,_,rfl,aQ (fun z=>?_) fun z=>?_⟩
   ·rw [a8,decide_eq_true_eq] at z
    refine ⟨_,rfl,_,rfl,b,x,S,p,bC,cl,bg,hs,g,rfl,A1,hB,fun H2 r2 A2=>⟨rfl,r2,?_⟩⟩
    cases x with
    | kern k=>exact A2
    | _=>cases z
   ·rw [a8,decide_eq_false_iff_not] at z
    refine ⟨_,rfl,b,x,rfl,hB,_,rfl,aQ (fun z2=>?_) fun z2=>?_⟩
    ·obtain ⟨gg,hg⟩:=CZ z2
     refine ⟨_,rfl,_,rfl,b,x,S,p,bC,cl,bg,hs,g,rfl,A1,hB,fun H2 r2 A2=>?_⟩
     have hB2:=hB.fix (A1.fix T r2)
     refine ⟨_,rfl,g.a,g.dx,_,rfl,A2.obj,rfl,_,rfl,b,x,gg,rfl,hB2,hg,fun gl ngl=>?_⟩
     have s3:∀ o,aK H2 (a6 H2 gl o):=fun o=>aK.new ngl
     refine ⟨gl,gg,S,BI p x,bC,cl,bg,hs,g,rfl,A2.same (s3 _),.inl aD,?_,(hO gg hg).1,fun H4 r4 A4=>⟨rfl,(r2.trans (g_.of_same (g:=g) (s3 _))).trans r4,?_⟩⟩
     ·exact Ne.symm (aH A2.vW ngl)
     ·cases x with
      | glue g'=>cases hg;exact A4
      | leaders g' how y=>cases hg;exact A4
      | _=>cases z2
    ·refine ⟨rfl,g_.refl,?_⟩
     cases x with
     | kern k=>exact absurd rfl z
     | glue g'=>cases z2
     | leaders g' how y=>cases z2
     | _=>exact A1
  ·rintro σ' H2 ⟨rfl,r2,A2⟩
   obtain ⟨as,h1,h2⟩:=A2.oth
   have hB2:=hB.fix (A1.fix T r2)
   refine ⟨_,rfl,g.a,g.dx,_,_,rfl,A2.obj,rfl,.inl ⟨rfl,_,cT.of h1⟩,_,rfl,g.th,_,_,rfl,rfl,h1,?_,?_⟩
   ·rw [length_map,h2.len,(rF p x).1,sizeLine_eq];omega
   refine q _ (r2.trans (g_.chg (eP (g:=g)).2.2.1)) ?_
   have:=A2.app T h1 h2 hB2
   rw [(rF p x).1] at this
   exact this
theorem J2(s:SgPage.Style)(p:Sofar)(x:Thing):Dc p (above s.top x)=glueThing p (above s.top x) ⟨max 0 (s.top.size - ((solid x).map (·.1)).getD 0),s.top.stretch,s.top.so,s.top.shrink,s.top.sho⟩:=rfl
def wI(s:SgPage.Style)(p:Sofar)(x:Thing):Sofar:=if hasSolid p.things=true then p else Dc p (above s.top x)
def Mc(s:SgPage.Style)(p:Sofar)(x:Thing):Sofar:={ lay s (wI s p x) (bI x) (c7 x) with things:=(wI s p x).things++[x] }
theorem JG{s:SgPage.Style}{p:Sofar}{x:Thing}{h d:Int}(e:solid x=some (h,d)):{ Mc s p x with begun:=true }=solidThing s p x h d:=by
 have e1:bI x=h/\c7 x=d:=by cases x<;>first|(cases e;exact ⟨rfl,rfl⟩)|cases e
 unfold Mc wI solidThing
 rw [e1.1,e1.2]
 by_cases q:hasSolid p.things=true
 ·rw [if_pos q];simp only [q,if_true]
 ·rw [if_neg q]
  simp only [q,if_false]
  rw [J2,e]
  simp [above,e]
inductive zK(t:bH)(K:Frag)(vs:List V)(H:Hp)(Q:VK)(E:XK):Prop
 | mk:∀ (b:Addr) (x:Thing) (s:SgPage.Style) (p:Sofar) (bC cl:Addr) (bg:Bool) (g:Pa),vs=[.ref g.a,.ref b]->a9 t H s p bC cl bg (hasSolid p.things) g->bQ t H b x->cV x=true->dI s->p.things.length<=900000->(∀ H',g_ g g H H'->a9 t H' s (Mc s p x) bC cl bg true g->Q .eX H')->zK t K vs H Q E
theorem GA{t:bH}(T:b7 K mg t):bL P w K mg base hJ 6 t.lE.f t.lE.fd ["page","thing"] (zK t K):=by
 refine T.lE.F.ok GO (fun vs H Q E h=>?_) (fun cdv A outer s H vs Q E hr h=>?_)
 ·obtain ⟨b,x,s,p,bC,cl,bg,g,rfl,_⟩:=h
  rfl
 ·obtain ⟨b,x,S,p,bC,cl,bg,g,rfl,A1,hB,hsol,SO,hl,q⟩:=h
  refine ⟨_,(gZ (a_ (jC (c2 (aZ T.aO.cl T.iI (pv 0)))) (aB (bJ (cf (zC T) T.jY hr aV (aA (pv 0) (aA (cf (xS T) T.jS hr aV (aA (aZ T.dF.cl T.AS (aZ T.aO.cl T.qJ (pv 0))) (aA (pv 1) aF))) aF)))) (aE (bT T.aO.cl T.iI (pv 0) mG))) aR) (aB (gL T.aO.cl T.fU (pv 0) (bW iK (aZ T.aO.cl T.eQ (pv 0)) (fZ T.aP.cl T.hW thH (pv 1))) m9) (aB (bT T.aO.cl T.eQ (pv 0) (jI (wK rfl) (by rfl) T.MN IL (aA (fZ T.aP.cl T.iQ thD (pv 1)) (aA (aZ T.dF.cl T.jP (aZ T.aO.cl T.qJ (pv 0))) aF)))) (aB (gL T.aO.cl T.fU (pv 0) (bW jW (fZ T.aP.cl T.iQ thD (pv 1)) (aZ T.aO.cl T.eQ (pv 0))) m9) (aE (bJ (yM PySem.F.plainAttrs_list PySem.F.slot_list_append PySem.F.type_list_append j1 (aZ T.aO.cl T.iU (pv 0)) (aA (pv 1) aF)))))))),?_⟩
  refine ⟨fun σ' H'=>σ'=[some (.ref g.a),some (.ref b)]/\g_ g g H H'/\a9 t H' S (wI S p x) bC cl bg true g,?_,?_⟩
  ·refine ⟨_,rfl,g.a,g.dx,_,_,rfl,A1.obj,rfl,_,rfl,aQ (fun z=>?_) fun z=>?_⟩
   ·have z:hasSolid p.things=false:=by simpa using z
    obtain ⟨sdx,tl,y1,y2⟩:=A1.bC
    refine ⟨_,rfl,_,rfl,g.a,g.dx,_,_,rfl,A1.obj,rfl,bC,sdx,_,_,rfl,y1,rfl,_,rfl,tl,S.top,b,x,rfl,y2.rd,hB,hsol,fun pa H2 s2 np hA2=>?_⟩
    have A2:=A1.same s2
    refine ⟨pa,above S.top x,S,p,bC,cl,bg,_,g,rfl,A2,hA2,?_,by omega,fun H3 r3 A3=>?_⟩
    ·intro g' hg'
     have:=(lB SO.top).2.2.2
     cases hg'
     exact this
    refine ⟨_,rfl,g.a,g.dx,_,rfl,A3.obj,sm 13,rfl,((g_.of_same (g:=g) s2).trans r3).trans (g_.chg (eP (g:=g)).1),?_⟩
    have:wI S p x=Dc p (above S.top x):=by unfold wI;rw [if_neg (by rw [z];decide)]
    rw [this]
    exact A3.nums T (p2:=Dc p (above S.top x)) rfl rfl rfl rfl
   ·have z:hasSolid p.things=true:=by simpa using z
    refine ⟨rfl,g_.refl,?_⟩
    have:wI S p x=p:=by unfold wI;rw [if_pos z]
    rw [this]
    rw [z] at A1
    exact A1
  ·rintro σ' H2 ⟨rfl,r2,A2⟩
   have hql:(wI S p x).things.length<=900001:=by
    unfold wI
    split
    ·omega
    ·show (p.things++[_]).length<=_;rw [length_append];simp;omega
   generalize hQ0:wI S p x=Q0 at A2 hql
   have hB2:=hB.fix (A1.fix T r2)
   refine ⟨_,rfl,g.a,g.dx,_,_,rfl,A2.obj,rfl,_,rfl,g.a,g.dx,_,_,rfl,A2.obj,rfl,_,rfl,b,x,rfl,hB2,_,_,rfl,rfl,_,_,rfl,rfl,g.dx,_,A2.obj,sm 13,?_⟩
   have A3:=A2.nums T (p2:={ Q0 with sum:=Q0.sum+(Q0.depth+bI x) }) (bg2:=bg) (hs2:=true) rfl rfl rfl rfl
   have r3:g_ g g H2 _:=g_.chg (o:=.ins t.cW g.dx (pgF bC cl Q0.goal (Q0.sum+(Q0.depth+bI x)) Q0.depth g.str Q0.shrink g.th bg true g.nL Q0.extra g.wt)) (eP (g:=g)).1
   show OB _ _ _ _ (a6 H2 g.a (.ins t.cW g.dx (pgF bC cl Q0.goal (Q0.sum+(Q0.depth+bI x)) Q0.depth g.str Q0.shrink g.th bg true g.nL Q0.extra g.wt)))
   generalize a6 H2 g.a (.ins t.cW g.dx (pgF bC cl Q0.goal (Q0.sum+(Q0.depth+bI x)) Q0.depth g.str Q0.shrink g.th bg true g.nL Q0.extra g.wt))=H3 at A3 r3 ⊢
   have hB3:=hB.fix (A1.fix T (r2.trans r3))
   obtain ⟨sdx,tl,y1,y2⟩:=A3.bC
   refine ⟨_,rfl,b,x,rfl,hB3,_,rfl,g.a,g.dx,_,_,rfl,A3.obj,rfl,bC,sdx,_,_,rfl,y1,rfl,_,_,rfl,_,rfl,g.a,g.dx,_,rfl,A3.obj,sm 13,?_⟩
   rw [Ql]
   have A4:=A3.nums T (p2:={ Q0 with sum:=Q0.sum+(Q0.depth+bI x),depth:=min (c7 x) S.most }) (bg2:=bg) (hs2:=true) rfl rfl rfl rfl
   have r4:g_ g g H3 _:=g_.chg (o:=.ins t.cW g.dx (pgF bC cl Q0.goal (Q0.sum+(Q0.depth+bI x)) (min (c7 x) S.most) g.str Q0.shrink g.th bg true g.nL Q0.extra g.wt)) (eP (g:=g)).1
   show OB _ _ _ _ (a6 H3 g.a (.ins t.cW g.dx (pgF bC cl Q0.goal (Q0.sum+(Q0.depth+bI x)) (min (c7 x) S.most) g.str Q0.shrink g.th bg true g.nL Q0.extra g.wt)))
   generalize a6 H3 g.a (.ins t.cW g.dx (pgF bC cl Q0.goal (Q0.sum+(Q0.depth+bI x)) (min (c7 x) S.most) g.str Q0.shrink g.th bg true g.nL Q0.extra g.wt))=H4 at A4 r4 ⊢
   have hB4:=hB.fix (A1.fix T ((r2.trans r3).trans r4))
   refine ⟨_,rfl,g.a,g.dx,_,_,rfl,A4.obj,rfl,_,rfl,b,x,rfl,hB4,_,rfl,g.a,g.dx,_,_,rfl,A4.obj,rfl,_,_,rfl,rfl,_,_,rfl,rfl,g.dx,_,A4.obj,sm 13,?_⟩
   generalize e5:a6 H4 g.a _=H5
   have A5:a9 t H5 S { Q0 with sum:=Q0.sum+(Q0.depth+bI x)+(c7 x - min (c7 x) S.most),depth:=min (c7 x) S.most } bC cl bg true g:=by
    rw [<-e5]
    exact A4.nums T (p2:={ Q0 with sum:=Q0.sum+(Q0.depth+bI x)+(c7 x - min (c7 x) S.most),depth:=min (c7 x) S.most }) (bg2:=bg) (hs2:=true) rfl rfl rfl rfl
   have r5:g_ g g H4 H5:=by rw [<-e5];exact g_.chg (eP (g:=g)).1
   have r25:=((r2.trans r3).trans r4).trans r5
   have hB5:=hB.fix (A1.fix T r25)
   obtain ⟨as,h1,h2⟩:=A5.oth
   have h2:aL t H5 as Q0.things:=h2
   refine ⟨_,rfl,g.a,g.dx,_,_,rfl,A5.obj,rfl,.inl ⟨rfl,_,cT.of h1⟩,_,rfl,g.th,_,_,rfl,rfl,h1,?_,?_⟩
   ·rw [length_map,h2.len,sizeLine_eq];omega
   refine q _ (r25.trans (g_.chg (eP (g:=g)).2.2.1)) ?_
   have A6:=A5.app T h1 h2 hB5
   have e:Mc S p x={ Q0 with sum:=Q0.sum+(Q0.depth+bI x)+(c7 x - min (c7 x) S.most),depth:=min (c7 x) S.most,things:=Q0.things++[x] }:=by
    have es:Q0.sum+(Q0.depth+bI x)+(c7 x - min (c7 x) S.most)=Q0.sum+Q0.depth+bI x+max 0 (c7 x - S.most):=by omega
    unfold Mc lay
    rw [hQ0,es]
   rw [e];exact A6
theorem a9.conv{t:bH}{H:Hp}{s:SgPage.Style}{p p2:Sofar}{bC cl:Addr}{bg hs:Bool}{g:Pa}(A:a9 t H s p bC cl bg hs g)(b:Bool)(la:Option Thing)(h:p2={ p with begun:=b,last:=la }):a9 t H s p2 bC cl bg hs g:=by
 subst h
 exact ⟨A.obj,A.vW,A.st4,A.oth,A.owt,A.p9,A.sh,A.cov,A.ndc,A.n1,A.n2,A.n3,A.n4,A.n5,A.bC,A.cls,A.ncl⟩
theorem OX{st:List Int}(h:st.length=4):st.set 0 (st.getD 0 0)=st:=by
 match st,h with
 | a::r,_=>simp
theorem Cs{s:SgPage.Style}{p:Sofar}{x:Thing}(h4:p.stretch.length=4)(hns:cV x=false)(hni:tH x=false)(hd:dropped x=false\/p.begun=true):put1 s p x=Dc p x:=by
 cases x with
 | glue g =>
  rcases hd with h|h
  ·cases h
  ·show (if p.begun=true then _ else _)=_;rw [if_pos h];rfl
 | leaders g how y =>
  rcases hd with h|h
  ·cases h
  ·show (if p.begun=true then _ else _)=_;rw [if_pos h];rfl
 | kern k =>
  rcases hd with h|h
  ·cases h
  ·show (if p.begun=true then _ else _)=_;rw [if_pos h]
   show _={ BI p (Thing.kern k) with things:=p.things++[Thing.kern k] }
   unfold glueThing addGlue BI
   simp only [Int.add_zero,OX h4,bI]
 | penalty k =>
  rcases hd with h|h
  ·cases h
  ·show (if p.begun=true then _ else _)=_;rw [if_pos h];rfl
 | insert c g d k l=>cases hni
 | box c ww hh d st sh l=>cases hns
 | rule ww hh d=>cases hns
 | _=>rfl
theorem Ey{s:SgPage.Style}{p:Sofar}{x:Thing}(hd:dropped x=true)(hb:p.begun=false):put1 s p x=p:=by
 cases x<;>first|(show (if p.begun=true then _ else _)=_;rw [if_neg (by rw [hb];decide)])|cases hd
theorem AN(l:List Thing)(x:Thing):hasSolid (l++[x])=(hasSolid l||cV x):=by
 unfold hasSolid;rw [List.any_append];simp [cV]
abbrev N9(t:bH)(H:Hp)(s:SgPage.Style)(l:List Thing)(i:Nat)(bC cl:Addr)(g:Pa):Prop:=a9 t H s (sofarAt s l i) bC cl (sofarAt s l i).begun (hasSolid (sofarAt s l i).things) g
structure BdL(p:Sofar):Prop where
 things:p.things.length<=100000
 waiting:p.waiting.length<=100000
 on:∀ c,M_ p c
theorem bdL{s:SgPage.Style}{l:List Thing}{i:Nat}(SO:dI s)(CO:i_ l)(hi:i<=l.length):BdL (sofarAt s l i):=by
 have B:=uI SO CO i hi
 have h1:=CO.len
 have h2:=CO.gA
 have h3:=kJ (List.take_sublist i l)
 refine ⟨?_,?_,fun c=>⟨?_,?_⟩⟩
 ·have:=nX (oA B.ft);have:=B.tt;omega
 ·have:=nX B.fw;have:=B.tw;omega
 ·obtain ⟨⟨z1,z2⟩,_,_⟩:=D1 B c
  exact ⟨by omega,by omega⟩
 ·obtain ⟨_,z2,z3⟩:=D1 B c
  have:=nX (oA z3);omega
inductive xY(t:bH)(K:Frag)(vs:List V)(H:Hp)(Q:VK)(E:XK):Prop
 | mk:∀ (b:Addr) (x:Thing) (l:List Thing) (i:Nat) (s:SgPage.Style) (bC cl:Addr) (g:Pa),vs=[.ref g.a,.ref b]->N9 t H s l i bC cl g->bQ t H b x->l[i]?=some x->i_ l->dI s->g.cs.length<=i->(∀ H' g',g_ g g' H H'->g'.cs.length<=i+1->N9 t H' s l (i+1) bC cl g'->Q .eX H')->xY t K vs H Q E
theorem xT{t:bH}(T:b7 K mg t):bL P w K mg base hJ 10 t.jZ.f t.jZ.fd ["page","thing"] (xY t K):=by
 refine T.jZ.F.ok Gx (fun vs H Q E h=>?_) (fun cdv A outer s H vs Q E hr h=>?_)
 ·obtain ⟨b,x,l,i,s,bC,cl,g,rfl,_⟩:=h
  rfl
 ·obtain ⟨b,x,l,i,S,bC,cl,g,rfl,A1,hB,hx,CO,SO,hcl,q⟩:=h
  refine ⟨_,gZ (a_ (PW.pt (FN (c2 (cf (qA T) T.iO hr aV (aA (pv 1) aF))) (BM (jC (c2 (aZ T.aO.cl T.jG (pv 0))))))) (aE Pp) aR) (aE (a_ (tc bY (fZ T.aP.cl T.bS thK (pv 1)) (aW T.kC)) (aB (bJ (cf (AO T) T.gO hr aV (aA (pv 0) (aA (pv 1) aF)))) (aE (bT T.aO.cl T.jG (pv 0) mG))) (aE (a_ (c2 (cf (Df T) T.pD hr aV (aA (pv 1) aF))) (aB (bJ (cf (GA T) T.lE hr aV (aA (pv 0) (aA (pv 1) aF)))) (aE (bT T.aO.cl T.jG (pv 0) mG))) (aE (bJ (cf (zC T) T.jY hr aV (aA (pv 0) (aA (pv 1) aF))))))))),?_⟩
  have hi:i<l.length:=(List.getElem?_eq_some_iff.mp hx).1
  have PG:=kF S l i (by omega)
  have BL:=bdL SO CO (i:=i) (by omega)
  have hr8:=CO.at hx
  have hsm:=pJ hr8
  have hlen:=CO.len
  have es:=iY (s:=S) hx
  have q:∀ H' g',g_ g g' H H'->g'.cs.length<=i+1->a9 t H' S (put1 S (sofarAt S l i) x) bC cl (put1 S (sofarAt S l i) x).begun (hasSolid (put1 S (sofarAt S l i) x).things) g'->Q .eX H':=by
   intro H' g' r hc A'
   refine q H' g' r hc ?_
   show a9 _ _ _ _ _ _ _ _ _
   rw [es]
   exact A'.conv _ _ rfl
  replace A1:a9 t H S (sofarAt S l i) bC cl (sofarAt S l i).begun (hasSolid (sofarAt S l i).things) g:=A1
  generalize sofarAt S l i=p at *
  refine ⟨fun σ' H'=>σ'=[some (.ref g.a),some (.ref b)]/\H'=H/\(dropped x=false\/p.begun=true),?_,?_⟩
  ·refine ⟨_,rfl,b,x,rfl,hB,_,rfl,aQ (fun z=>⟨_,rfl,g.a,g.dx,_,_,rfl,A1.obj,rfl,_,rfl,aQ (fun z2=>?_) fun z2=>?_⟩) fun z=>NR ⟨rfl,rfl,.inl z⟩⟩
   ·have z2:p.begun=false:=by simpa using z2
    refine q H g g_.refl (by omega) ?_
    rw [Ey z z2];exact A1
   ·exact ⟨rfl,rfl,.inr (by simpa using z2)⟩
  rintro σ' H' ⟨rfl,rfl,hd⟩
  refine ⟨_,rfl,b,x,rfl,hB,rfl,_,rfl,aQ (fun z=>?_) fun z=>?_⟩
  ·rw [a8,decide_eq_true_eq] at z
   cases x with
   | insert c gg d k inner =>
    obtain ⟨b1,b2,b3⟩:=CO.body hx
    refine ⟨_,rfl,_,rfl,c,b,gg,d,k,inner,S,p,bC,cl,_,g,rfl,A1,hB,⟨b1,b2,b3⟩,BL.on c,SO,by have:=BL.waiting;omega,by omega,PG.nodup,fun H2 g2 r2 hl2 A2=>?_⟩
    have e1:put1 S p (.insert c gg d k inner)=iZ S p c inner gg d k:=rH S p c inner gg d k
    have inv:=zZ (s:=S) (c:=c) (body:=inner) (top:=gg) (d:=d) (k:=k) A1.st4 PG.nodup
    rw [rH] at inv
    have o2:H2 g.a=some _:=r2.1▸A2.obj
    refine ⟨_,rfl,g.a,g2.dx,_,rfl,o2,sm 13,?_⟩
    have A3:=A2.nums T (p2:=iZ S p c inner gg d k) (bg2:=true) (hs2:=hasSolid p.things) rfl rfl rfl rfl
    rw [r2.1] at A3
    have hga:g.a∈g2.fp:=by rw [<-r2.1];exact (eP (g:=g2)).1
    refine q _ g2 (r2.trans (g_.chg hga)) (by omega) ?_
    rw [e1,inv.2.1,inv.2.2.2]
    exact A3
   | _=>cases z
  rw [a8,decide_eq_false_iff_not] at z
  have hni:tH x=false:=by
   cases x with
   | insert c gg d k inner=>exact absurd rfl z
   | _=>rfl
  refine ⟨_,rfl,b,x,rfl,hB,_,rfl,aQ (fun z2=>?_) fun z2=>?_⟩
  ·refine ⟨_,rfl,_,rfl,b,x,S,p,bC,cl,_,g,rfl,A1,hB,z2,SO,by have:=BL.things;omega,fun H2 r2 A2=>?_⟩
   refine ⟨_,rfl,g.a,g.dx,_,rfl,A2.obj,sm 13,?_⟩
   have A3:=A2.nums T (p2:=Mc S p x) (bg2:=true) (hs2:=true) rfl rfl rfl rfl
   obtain ⟨⟨hh,d⟩,hsol⟩:=Option.isSome_iff_exists.mp z2
   have e1:put1 S p x=solidThing S p x hh d:=by
    cases x<;>first|(cases hsol;rfl)|cases hsol
   have e2:=JG (s:=S) (p:=p) hsol
   refine q _ g (r2.trans (g_.chg (eP (g:=g)).1)) (by omega) ?_
   rw [e1,<-e2]
   have e3:hasSolid ({ Mc S p x with begun:=true }:Sofar).things=true:=by
    show hasSolid ((wI S p x).things++[x])=true
    rw [AN,z2,Bool.or_true]
   rw [e3]
   exact A3.conv true _ rfl
  ·refine ⟨_,rfl,_,rfl,b,x,S,p,bC,cl,_,_,g,rfl,A1,hB,Aq hsm,by have:=BL.things;omega,fun H2 r2 A2=>?_⟩
   refine q _ g r2 (by omega) ?_
   rw [Cs A1.st4 z2 hni hd]
   have e1:(Dc p x).begun=p.begun:=(rF p x).2.2.2
   have e2:hasSolid (Dc p x).things=hasSolid p.things:=by
    show hasSolid (p.things++[x])=_
    rw [AN,z2,Bool.or_false]
   rw [e1,e2]
   exact A2
inductive C7(t:bH)(K:Frag)(vs:List V)(H:Hp)(Q:VK)(E:XK):Prop
 | mk:∀ (la:Addr) (as:List Addr) (l:List Thing) (i:Nat) (s:SgPage.Style) (p:Sofar) (bC cl:Addr) (bg hs:Bool) (g:Pa),vs=[.ref g.a,.ref la,.int (i:Int)]->a9 t H s p bC cl bg hs g->cT K H la (as.map V.ref)->aL t H as l->i<l.length->Q (.bl (bg&&isBreak l i)) H->C7 t K vs H Q E
theorem Dv{t:bH}(T:b7 K mg t):bL P w K mg base hJ 4 t.pF.f t.pF.fd ["page","column","place"] (C7 t K):=by
 refine T.pF.F.ok Ks (fun vs H Q E h=>?_) (fun cdv A outer s H vs Q E hr h=>?_)
 ·obtain ⟨la,as,l,i,s,p,bC,cl,bg,hs,g,rfl,_⟩:=h
  rfl
 ·obtain ⟨la,as,l,i,S,p,bC,cl,bg,hs,g,rfl,A1,hL,hT,hi,q⟩:=h
  refine ⟨_,(aE (aM (vM (aZ T.aO.cl T.jG (pv 0)) (qC (cf (BG T) T.lQ hr aV (aA (pv 1) (aA (pv 2) aF))))))),?_⟩
  refine ⟨_,rfl,g.a,g.dx,_,_,rfl,A1.obj,rfl,_,rfl,aQ (fun z=>?_) fun z=>?_⟩
  ·rw [z,Bool.true_and] at q
   exact ⟨_,rfl,_,rfl,la,as,l,i,rfl,hL,hT,hi,q⟩
  ·rw [z,Bool.false_and] at q
   exact q
structure OA(p:Sofar):Prop where
 QW:(p.goal - p.sum).natAbs<2 ^ 64
 st:p.stretch.getD 0 0<2 ^ 64
 sh:p.shrink<2 ^ 64
theorem Ol{s:SgPage.Style}{l:List Thing}{i:Nat}(SO:dI s)(CO:i_ l)(hi:i<=l.length):OA (sofarAt s l i):=by
 have B:=uI SO CO i hi
 have h1:=CO.len
 have h4:=(kF s l i hi).st
 obtain ⟨a1,a2⟩:=B.goal
 obtain ⟨b1,b2⟩:=B.sum
 obtain ⟨d1,d2⟩:=B.shr
 refine ⟨?_,?_,by omega⟩
 ·unfold GB at a1 a2;omega
 ·have:=(B.str ((sofarAt s l i).stretch.getD 0 0) (by
   rw [getD_eq_getElem?_getD,getElem?_eq_getElem (by omega)];exact List.getElem_mem _)).2
  omega
def O5(bb:Option Int)(k e:Int):Option Int:=match bb with
 | none=>none
 | some b=>if k<=-NEVER then some k else if NEVER<=e then none else if b=WORST then some VERYBAD else some (b+k+e)
inductive zJ(t:bH)(K:Frag)(vs:List V)(H:Hp)(Q:VK)(E:XK):Prop
 | mk:∀ (k:Int) (s:SgPage.Style) (p:Sofar) (bC cl:Addr) (bg hs:Bool) (g:Pa),vs=[.ref g.a,.int k]->a9 t H s p bC cl bg hs g->OA p->(∀ H',aK H H'->Q (FO (MD p k)) H')->zJ t K vs H Q E
theorem zE{t:bH}(T:b7 K mg t):bL P w K mg base hJ 4 t.jQ.f t.jQ.fd ["page","penalty"] (zJ t K):=by
 refine T.jQ.F.ok x_ (fun vs H Q E h=>?_) (fun cdv A outer s H vs Q E hr h=>?_)
 ·obtain ⟨k,s,p,bC,cl,bg,hs,g,rfl,_⟩:=h
  rfl
 ·obtain ⟨k,S,p,bC,cl,bg,hs,g,rfl,A1,CK,q⟩:=h
  refine ⟨_,(aB (sv 2 x_.nd (cf (Fi T) T.dG hr aV (aA (bW jW (aZ T.aO.cl T.gY (pv 0)) (aZ T.aO.cl T.fU (pv 0))) (aA (aZ T.aO.cl T.kP (pv 0)) (aA (bR (aA (aZ T.aO.cl T.oZ (pv 0)) (aA aG (aA aG (aA aG aF))))) aF))))) (aB (a_ (rY (CI (pv 2))) (aE (aM Co)) aR) (aB (a_ (c2 (cf (nS T) T.i4 hr aV (aA (pv 1) aF))) (aE (aM (pv 1))) aR) (aB (a_ (tc Mz (aZ T.aO.cl T.jJ (pv 0)) (aW T.lF)) (aE (aM Co)) aR) (aB (a_ (tc bY (pv 2) (aW T.D0)) (aE (aM (aW T.AD))) aR) (aE (aM (bW iK (bW iK (pv 2) (pv 1)) (aZ T.aO.cl T.jJ (pv 0)))))))))),?_⟩
  refine ⟨_,rfl,g.a,g.dx,_,_,rfl,A1.obj,rfl,_,rfl,g.a,g.dx,_,_,rfl,A1.obj,rfl,_,_,rfl,rfl,_,rfl,g.a,g.dx,_,_,rfl,A1.obj,rfl,_,rfl,g.a,g.dx,_,_,rfl,A1.obj,rfl,(sz 4),fun l1 n1=>?_⟩
  have s1:∀ o,aK H (a6 H l1 o):=fun o=>aK.new n1
  refine ⟨_,g.str,l1,p.stretch,[p.shrink,0,0,0],rfl,cT.of (s1 _ _ _ A1.vW),cT.of aD,A1.st4,rfl,CK.QW,CK.st,CK.sh,?_⟩
  have q:=q _ (s1 (.lst ([p.shrink,0,0,0].map V.int)))
  have A2:=A1.same (s1 (.lst ([p.shrink,0,0,0].map V.int)))
  have q:∀ o,O5 (dG (p.goal - p.sum) p.stretch [p.shrink,0,0,0]) k p.extra=o->Q (FO o) (a6 H l1 (.lst ([p.shrink,0,0,0].map V.int))):=fun o e=>e▸(show Q (FO (MD p k)) _ from q)
  generalize dG (p.goal - p.sum) p.stretch [p.shrink,0,0,0]=bb at q ⊢
  refine ⟨_,rfl,_,rfl,aQ (fun z=>?_) fun z=>?_⟩
  ·have:=uM z
   exact q none (by rw [this];rfl)
  obtain ⟨c,rfl⟩:=rL z
  simp only [O5] at q
  refine ⟨_,rfl,k,rfl,_,rfl,aQ (fun z2=>⟨_,rfl,?_⟩) fun z2=>?_⟩
  ·exact q (some k) (by rw [if_pos (of_decide_eq_true z2)])
  have z2:=of_decide_eq_false z2
  refine ⟨_,rfl,g.a,g.dx,_,_,rfl,A2.obj,rfl,_,_,rfl,rfl,_,rfl,aQ (fun z3=>?_) fun z3=>?_⟩
  ·have z3:NEVER<=p.extra:=of_decide_eq_true z3
   exact q none (by rw [if_neg z2,if_pos z3])
  have z3:¬ NEVER<=p.extra:=of_decide_eq_false z3
  refine ⟨_,rfl,rfl,_,rfl,aQ (fun z4=>?_) fun z4=>?_⟩
  ·have z4:c=WORST:=V.int.inj (of_decide_eq_true z4)
   exact q (some _) (by rw [if_neg z2,if_neg z3,if_pos z4];rfl)
  ·have z4:¬ c=WORST:=fun e=>of_decide_eq_false z4 (by rw [e];rfl)
   refine ⟨_,rfl,_,rfl,_,_,rfl,rfl,_,rfl,g.a,g.dx,_,_,rfl,A2.obj,rfl,_,_,rfl,rfl,q (some _) ?_⟩
   rw [if_neg z2,if_neg z3,if_neg z4]
theorem Dp.same{t:bH}{H H':Hp}{cl:Addr}{s:SgPage.Style}(h:Dp t H cl s)(x:aK H H'):Dp t H' cl s:=let ⟨kvs,e,d⟩:=h;⟨kvs,x _ _ e,d.fix x.fix⟩
theorem Kk{H H1:Hp}{a dx C:Addr}{g:Pa}(na:H a=none)(nd:H dx=none)(ne:dx≠a)(u:bG [a] (a6 (a6 H dx (.own a)) a (.ins C dx [])) H1)(fr:∀ b∈g.fp,b=a\/a6 (a6 H dx (.own a)) a (.ins C dx []) b=none):aK H H1/\∀ b∈g.fp,H b=none:=by
 have s0:aK H (a6 (a6 H dx (.own a)) a (.ins C dx [])):=(aK.new nd).trans (aK.new (by rw [aJ (Ne.symm ne)];exact na))
 refine ⟨fun b o e=>u b o (s0 b o e) (by simp;exact aH e na),fun b hb=>?_⟩
 rcases fr b hb with rfl|h
 ·exact na
 ·exact s0.free h
inductive tZ(t:bH)(K:Frag)(vs:List V)(H:Hp)(Q:VK)(E:XK):Prop
 | mk:∀ (la bC cl:Addr) (as:List Addr) (l:List Thing) (i:Nat) (s:SgPage.Style),vs=[.ref la,.int (i:Int),.ref bC,.ref cl]->cT K H la (as.map V.ref)->aL t H as l->i<=l.length->i_ l->dI s->kI t H bC s->Dp t H cl s->(∀ H' g,aK H H'->(∀ b∈g.fp,H b=none)->(∀ b∈g.tls,H b=none)->N9 t H' s l i bC cl g->g.cs.length<=i->Q (.ref g.a) H')->tZ t K vs H Q E
theorem uJ{t:bH}(T:b7 K mg t):bL P w K mg base hJ 11 t.iM.f t.iM.fd ["column","place","style","classes"] (tZ t K):=by
 refine T.iM.F.ok oO (fun vs H Q E h=>?_) (fun cdv A outer s H vs Q E hr h=>?_)
 ·obtain ⟨la,bC,cl,as,l,i,s,rfl,_⟩:=h
  rfl
 ·obtain ⟨la,bC,cl,as,l,i,S,rfl,hL,hT,hi,CO,SO,hS,hC,q⟩:=h
  refine ⟨_,(aB (sv 4 oO.nd (cn (Bf T) T.aO hr (aA (pv 2) (aA (pv 3) aF)))) (aB (p7 PassesOwn.never rfl (wQ (eF gB (pv 0) lS (dM (pv 1)))) (i8 (i:=5) oO.nd rfl (Or.inl rfl)) (aE (bJ (cf (xT T) T.jZ hr aV (aA (pv 4) (aA (pv 5) aF)))))) (aE (aM (pv 4))))),?_⟩
  refine ⟨_,rfl,_,rfl,fun a dx na nd ne=>?_⟩
  have s0:aK H (a6 (a6 H dx (.own a)) a (.ins t.cW dx [])):=(aK.new nd).trans (aK.new (by rw [aJ (Ne.symm ne)];exact na))
  refine ⟨a,dx,bC,cl,S,rfl,aD,hS.fix s0.fix,hC.same s0,fun H1 g ega u1 fr hcs A1=>⟨rfl,?_⟩⟩
  obtain ⟨s1,fr1⟩:=Kk na nd ne u1 fr
  have hbl:(as.map V.ref).length=l.length:=by rw [length_map,hT.len]
  refine ⟨_,rfl,_,rfl,_,rfl,la,_,rfl,s1.seq hL,fun l2 n2=>?_⟩
  rw [Ee _ _ (by rw [hbl];omega)]
  generalize e2:a6 H1 l2 _=H2
  have s2:aK H1 H2:=e2▸aK.new n2
  have f2:H2 l2=some (.lst ((as.map V.ref).take i)):=e2▸aD
  have nl2:=(A1.new n2).1
  refine ⟨l2,rfl,⟨_,cT.of f2⟩,BA (K:=K) (a:=l2) (xs:=(as.map V.ref).take i) (fun j σ H'=>∃ (g':Pa) (v:Option V),σ=[some (.ref la),some (.int (i:Int)),some (.ref bC),some (.ref cl),some (.ref a),v]/\g'.a=a/\aK H H'/\(∀ b∈g'.fp,H b=none)/\(∀ b∈g'.tls,H b=none)/\H' l2=some (.lst ((as.map V.ref).take i))/\l2∉g'.fp/\N9 t H' S l j bC cl g'/\g'.cs.length<=j)
   ⟨g,none,rfl,ega,s1.trans s2,fr1,(fun b hb=>by unfold Pa.tls at hb;rw [hcs] at hb;cases hb),f2,nl2,A1.same s2,by rw [hcs];exact Nat.zero_le _⟩ (fun j σ H' _ ⟨g',v,_,_,_,_,_,f,_⟩=>cT.of f) ?_ ?_⟩
  ·rintro j y σ H' hj ⟨g',v,rfl,eg,s',fr',ft',f',nl',A',hc'⟩
   have hji:j<i:=by
    have:=(List.getElem?_eq_some_iff.mp hj).1
    rw [length_take] at this;omega
   rw [List.getElem?_take,if_pos hji] at hj
   obtain ⟨b,hb,rfl⟩:=wR hj
   obtain ⟨x,hx,hB⟩:=hT.get hb
   refine ⟨_,rfl,_,rfl,b,x,l,j,S,bC,cl,g',by rw [eg];rfl,A',hB.fix s'.fix,hx,CO,SO,hc',fun H3 g3 r3 hc3 A3=>?_⟩
   obtain ⟨s3,fr3⟩:=r3.over s' fr'
   refine ⟨g3,_,rfl,r3.1.trans eg,s3,fr3,fun b hb=>?_,r3.2.1 _ _ f' nl',fun hh=>?_,A3,hc3⟩
   ·rcases r3.2.2.2 b hb with h|h|h
    ·exact ft' b h
    ·exact fr' b h
    ·exact s'.free h
   rcases r3.2.2.1 _ hh with h|h
   ·exact nl' h
   ·rw [f'] at h;cases h
  ·rintro σ H' ⟨g',v,rfl,eg,s',fr',ft',f',nl',A',hc'⟩
   have el:((as.map V.ref).take i).length=i:=by rw [length_take,hbl];omega
   rw [el] at A' hc'
   refine ⟨_,rfl,?_⟩
   rw [<-eg]
   exact q H' g' s' fr' ft' A' hc'
def QZ:Option Nat->Int
 | some i=>(i:Int)
 | none=>-1
inductive C9(t:bH)(K:Frag)(vs:List V)(H:Hp)(Q:VK)(E:XK):Prop
 | mk:∀ (la bC cl:Addr) (as:List Addr) (l:List Thing) (s:SgPage.Style),vs=[.ref la,.ref bC,.ref cl]->cT K H la (as.map V.ref)->aL t H as l->i_ l->dI s->kI t H bC s->Dp t H cl s->(∀ H',aK H H'->Q (.int (QZ (through s 0 (fresh s) none l))) H')->C9 t K vs H Q E
theorem MP{b:Option (Nat×Int)}(h:decide (V.int (fN b)=V.int (-1))=true):b=none:=by
 cases b with
 | none=>rfl
 | some x=>have:=V.int.inj (of_decide_eq_true h);simp only [fN] at this;omega
theorem JR{b:Option (Nat×Int)}(h:decide (V.int (fN b)=V.int (-1))=false):∃ x,b=some x:=by
 cases b with
 | none=>exact absurd rfl (of_decide_eq_false h)
 | some x=>exact ⟨x,rfl⟩
def next(i:Nat)(c:Int)(b:Option (Nat×Int)):Option (Nat×Int):=match b with
 | none=>some (i,c)
 | some x=>if c<=x.2 then some (i,c) else some x
theorem NC(i:Nat)(c:Int)(b:Option (Nat×Int)):∃ y,next i c b=some y:=by
 unfold next
 cases b with
 | none=>exact ⟨_,rfl⟩
 | some x=>simp only [];split<;>exact ⟨_,rfl⟩
theorem Dz{t:bH}(T:b7 K mg t):bL P w K mg base hJ 11 t.pE.f t.pE.fd ["column","style","classes"] (C9 t K):=by
 refine T.pE.F.ok fM (fun vs H Q E h=>?_) (fun cdv A outer s H vs Q E hr h=>?_)
 ·obtain ⟨la,bC,cl,as,l,s,rfl,_⟩:=h
  rfl
 ·obtain ⟨la,bC,cl,as,l,S,rfl,hL,hT,CO,SO,hS,hC,q⟩:=h
  refine ⟨_,(aB (sv 3 fM.nd (cn (Bf T) T.aO hr (aA (pv 1) (aA (pv 2) aF)))) (aB (sv 4 fM.nd (aW T.hX)) (aB (sv 5 fM.nd aG) (aB (p7 PassesOwn.never rfl (wN rfl T.D7 (aA (ln T.f_ (pv 0)) aF)) (i8 (i:=6) fM.nd rfl (Or.inl rfl)) (gZ (a_ (c2 (cf (Dv T) T.pF hr aV (aA (pv 3) (aA (pv 0) (aA (pv 6) aF))))) (aB (sv 7 fM.nd (cf (iA T) T.eZ hr aV (aA (ix (pv 0) (pv 6)) aF))) (aB (sv 8 fM.nd (cf (zE T) T.jQ hr aV (aA (pv 3) (aA (pv 7) aF)))) (aB (a_ (rY (CI (pv 8))) (aE (aM (K5 (tc bY (pv 4) (aW T.hX)) (pv 6) (pv 4)))) aR) (gZ (a_ (PW.pt (kX (tc bY (pv 4) (aW T.hX)) (jD (tc pT (pv 8) (pv 5))))) (aB (sv 4 fM.nd (pv 6)) (aE (sv 5 fM.nd (pv 8)))) aR) (aE (a_ (c2 (cf (nS T) T.i4 hr aV (aA (pv 7) aF))) (aE (aM (pv 4))) aR)))))) aR) (aE (bJ (cf (xT T) T.jZ hr aV (aA (pv 3) (aA (ix (pv 0) (pv 6)) aF))))))) (aE (aM (aW T.hX))))))),?_⟩
  refine ⟨_,rfl,_,rfl,fun a dx na nd ne=>?_⟩
  have s0:aK H (a6 (a6 H dx (.own a)) a (.ins t.cW dx [])):=(aK.new nd).trans (aK.new (by rw [aJ (Ne.symm ne)];exact na))
  refine ⟨a,dx,bC,cl,S,rfl,aD,hS.fix s0.fix,hC.same s0,fun H1 g ega u1 fr hcs A1=>⟨rfl,?_⟩⟩
  obtain ⟨s1,fr1⟩:=Kk na nd ne u1 fr
  have hlen:=CO.len
  have en:((as.map V.ref).length:Int).toNat=l.length:=by rw [length_map,hT.len];simp
  refine ⟨_,rfl,la,_,rfl,.inl (s1.seq hL),_,rfl,?_,?_,?_⟩
  ·omega
  ·rw [length_map,hT.len];omega
  rw [en]
  refine wM (fun i σ H'=>∃ (b:Option (Nat×Int)) (v6 v7 v8:Option V) (g':Pa),σ=[some (.ref la),some (.ref bC),some (.ref cl),some (.ref a),some (.int (fN b)),some (.int (lX b)),v6,v7,v8]/\g'.a=a/\aK H H'/\(∀ b∈g'.fp,H b=none)/\N9 t H' S l i bC cl g'/\g'.cs.length<=i/\through S 0 (fresh S) none l=through S i (sofarAt S l i) (b.map fun x=>(x.1,some x.2)) (l.drop i))
   ⟨none,none,none,none,g,rfl,ega,s1,fr1,A1,by rw [hcs];exact Nat.zero_le _,rfl⟩ ?_ ?_
  ·rintro i σ H2 hi ⟨b,v6,v7,v8,g2,rfl,eg,s2,fr2,A2,hc2,et⟩
   rw [Int.zero_add]
   have hx:l[i]?=some l[i]:=getElem?_eq_getElem hi
   generalize l[i]=x at hx
   obtain ⟨ad,ha,hA⟩:=hT.get' hx
   have hL2:=s2.seq hL
   have PG:=kF S l i (by omega)
   have CK:=Ol SO CO (i:=i) (by omega)
   rw [IV PG hx] at et
   have es:=iY (s:=S) hx
   rw [<-es] at et
   refine ⟨fun σ' H'=>aK H2 H'/\∃ (b':Option (Nat×Int)) (v7 v8:Option V),σ'=[some (.ref la),some (.ref bC),some (.ref cl),some (.ref a),some (.int (fN b')),some (.int (lX b')),some (.int (i:Int)),v7,v8]/\through S 0 (fresh S) none l=through S (i+1) (sofarAt S l (i+1)) (b'.map fun x=>(x.1,some x.2)) (l.drop (i+1)),?_,?_⟩
   ·refine ⟨_,rfl,_,rfl,_,rfl,la,as,l,i,S,_,bC,cl,_,_,g2,by rw [eg];rfl,A2,hL2,hT.fix s2.fix,hi,_,rfl,aQ (fun z=>?_) fun z=>?_⟩
    ·rw [if_pos (by rw [Bool.and_eq_true] at z;exact z)] at et
     refine ⟨_,rfl,_,rfl,la,_,_,_,rfl,rfl,hL2,rP ha,ad,x,rfl,hA.fix s2.fix,?_⟩
     refine ⟨_,rfl,_,rfl,_,S,_,bC,cl,_,_,g2,by rw [eg];rfl,A2,CK,fun H3 s3=>?_⟩
     have u3:aK H H3:=s2.trans s3
     rw [<-KG PG.st] at et
     refine ⟨_,rfl,_,rfl,aQ (fun z2=>?_) fun z2=>?_⟩
     ·have e0:=uM z2
      rw [e0,if_pos (.inl rfl)] at et
      rw [K7] at et
      have q:=q H3 u3
      rw [et] at q
      refine ⟨_,rfl,rfl,_,rfl,aQ (fun z3=>⟨_,rfl,?_⟩) fun z3=>⟨_,rfl,?_⟩⟩
      ·rw [MP z3] at q;exact q
      ·obtain ⟨y,hy⟩:=JR z3
       rw [hy] at q ⊢;exact q
     obtain ⟨c,hc⟩:=rL z2
     rw [hc] at et ⊢
     rw [Kq] at et
     have et:through S 0 (fresh S) none l=if (some c).isNone=true\/penaltyOf x<=-NEVER then some ((((next i c b).map fun x=>(x.1,some x.2)).map fun (x:Nat×Option Int)=>x.1).getD i) else through S (i+1) (sofarAt S l (i+1)) ((next i c b).map fun x=>(x.1,some x.2)) (l.drop (i+1)):=et
     refine ⟨fun σ' H'=>H'=H3/\σ'=[some (.ref la),some (.ref bC),some (.ref cl),some (.ref a),some (.int (fN (next i c b))),some (.int (lX (next i c b))),some (.int (i:Int)),some (.int (penaltyOf x)),some (.int c)],?_,?_⟩
     ·refine ⟨_,rfl,rfl,_,rfl,aQ (fun z3=>oB ?_) fun z3=>⟨_,rfl,_,rfl,_,_,rfl,rfl,_,rfl,aQ (fun z4=>?_) fun z4=>?_⟩⟩
      ·rw [MP z3]
       exact ⟨_,rfl,_,rfl,rfl,rfl⟩
      ·obtain ⟨y,hy⟩:=JR z3
       have z4:=of_decide_eq_true z4
       rw [hy] at z4 ⊢
       have z4:c<=y.2:=z4
       refine ⟨_,rfl,_,rfl,rfl,?_⟩
       unfold next
       simp only []
       rw [if_pos z4];rfl
      ·obtain ⟨y,hy⟩:=JR z3
       have z4:=of_decide_eq_false z4
       rw [hy] at z4 ⊢
       have z4:¬ c<=y.2:=z4
       refine ⟨rfl,?_⟩
       unfold next
       simp only []
       rw [if_neg z4];rfl
     ·rintro σ' H' ⟨rfl,rfl⟩
      refine ⟨_,rfl,_,rfl,_,rfl,aQ (fun z5=>⟨_,rfl,?_⟩) fun z5=>⟨s3,next i c b,_,_,rfl,?_⟩⟩
      ·have q:=q H' u3
       rw [et,if_pos (.inr (of_decide_eq_true z5))] at q
       obtain ⟨y,hy⟩:=NC i c b
       rw [hy] at q ⊢
       exact q
      ·rw [et,if_neg]
       rintro (h|h)
       ·cases h
       ·exact of_decide_eq_false z5 h
    ·rw [if_neg (by rw [Bool.and_eq_false_iff] at z;rintro ⟨h1,h2⟩;rcases z with z|z<;>simp_all)] at et
     exact ⟨fun _ _ e=>e,b,v7,v8,rfl,et⟩
   ·rintro σ' H3 ⟨s3,b',v7,v8,rfl,et'⟩
    have u3:aK H H3:=s2.trans s3
    have A3:=A2.same s3
    refine ⟨_,rfl,_,rfl,_,rfl,la,_,_,_,rfl,rfl,u3.seq hL,rP ha,ad,x,l,i,S,bC,cl,g2,by rw [eg];rfl,A3,hA.fix u3.fix,hx,CO,SO,hc2,fun H4 g4 r4 hc4 A4=>?_⟩
    obtain ⟨s4,fr4⟩:=r4.over u3 fr2
    exact ⟨b',_,v7,v8,g4,rfl,r4.1.trans eg,s4,fr4,A4,hc4,et'⟩
  ·rintro σ H2 ⟨b,v6,v7,v8,g2,rfl,eg,s2,fr2,A2,hc2,et⟩
   rw [K8 (Nat.le_refl _)] at et
   have q:=q H2 s2
   rw [et] at q
   exact q
def Je:Thing->Int
 | .penalty p=>p
 | _=>NEVER
inductive tV(t:bH)(K:Frag)(vs:List V)(H:Hp)(Q:VK)(E:XK):Prop
 | mk:∀ (b:Addr) (x:Thing),vs=[.ref b]->bQ t H b x->Q (.int (Je x)) H->tV t K vs H Q E
theorem FY{t:bH}(T:b7 K mg t):bL P w K mg base hJ 2 t.j8.f t.j8.fd ["thing"] (tV t K):=by
 refine T.j8.F.ok EL (fun vs H Q E h=>?_) (fun cdv A outer s H vs Q E hr h=>?_)
 ·obtain ⟨b,x,rfl,_⟩:=h
  rfl
 ·obtain ⟨b,x,rfl,hB,q⟩:=h
  have q:∀ d,Je x=d->Q (.int d) H:=fun d e=>e▸q
  refine ⟨_,(aB (a_ (tc bY (fZ T.aP.cl T.bS thK (pv 0)) (aW T.lC)) (aE (aM (cf (iA T) T.eZ hr aV (aA (pv 0) aF)))) aR) (aE (aM (aW T.lF)))),?_⟩
  refine ⟨_,rfl,b,x,rfl,hB,rfl,_,rfl,aQ (fun z=>?_) fun z=>?_⟩
  ·rw [a8,decide_eq_true_eq] at z
   refine ⟨_,rfl,b,x,rfl,hB,q _ ?_⟩
   cases x with
   | penalty k=>rfl
   | _=>cases z
  ·rw [a8,decide_eq_false_iff_not] at z
   refine q _ ?_
   cases x with
   | penalty k=>exact absurd rfl z
   | _=>rfl
inductive vB(t:bH)(K:Frag)(vs:List V)(H:Hp)(Q:VK)(E:XK):Prop
 | mk:∀ (la:Addr) (as:List Addr) (l:List Thing) (i:Nat) (s:SgPage.Style) (p:Sofar) (bC cl:Addr) (bg hs:Bool) (g:Pa),vs=[.ref g.a,.ref la,.int (i:Int)]->a9 t H s p bC cl bg hs g->cT K H la (as.map V.ref)->aL t H as l->i<l.length->l.length<=100000->p.waiting.length<=100000->(∀ q qs H',aK H H'->H q=none->H' q=some (.lst (qs.map V.ref))->aL t H' qs (p.waiting++restAt l i)->Q (.ref q) H')->vB t K vs H Q E
theorem FZ{t:bH}(T:b7 K mg t):bL P w K mg base hJ 6 t.j9.f t.j9.fd ["page","column","end"] (vB t K):=by
 refine T.j9.F.ok oW (fun vs H Q E h=>?_) (fun cdv A outer s H vs Q E hr h=>?_)
 ·obtain ⟨la,as,l,i,s,p,bC,cl,bg,hs,g,rfl,_⟩:=h
  rfl
 ·obtain ⟨la,as,l,i,S,p,bC,cl,bg,hs,g,rfl,A1,hL,hT,hi,hl,hw,q⟩:=h
  refine ⟨_,(aB (sv 3 oW.nd (ix (pv 1) (pv 2))) (gZ (a_ (tc bY (fZ T.aP.cl T.bS thK (pv 3)) (aW T.lC)) (aE (sv 3 oW.nd (cf (tL T) T.gX hr aV (aA (aW T.lF) aF)))) aR) (aE (aM (bW eN (bW eN (aZ T.aO.cl T.jM (pv 0)) (bR (aA (pv 3) aF))) (eF gB (pv 1) (dM (bW iK (pv 2) aG)) lS)))))),?_⟩
  have hx:l[i]?=some l[i]:=getElem?_eq_getElem hi
  generalize l[i]=x at hx
  obtain ⟨b,hb,hB⟩:=hT.get' hx
  refine ⟨_,rfl,_,rfl,la,_,_,_,rfl,rfl,hL,rP hb,?_⟩
  refine ⟨fun σ' H'=>∃ (b':Addr) (x':Thing),σ'=[some (.ref g.a),some (.ref la),some (.int (i:Int)),some (.ref b')]/\aK H H'/\bQ t H' b' x'/\restAt l i=x'::l.drop (i+1),?_,?_⟩
  ·refine ⟨_,rfl,b,x,rfl,hB,rfl,_,rfl,aQ (fun z=>?_) fun z=>?_⟩
   ·rw [a8,decide_eq_true_eq] at z
    refine ⟨_,rfl,fun b' H2 s2 _ hb'=>⟨b',_,rfl,s2,hb',?_⟩⟩
    unfold restAt;rw [hx]
    cases x with
    | penalty k=>rfl
    | _=>cases z
   ·rw [a8,decide_eq_false_iff_not] at z
    refine ⟨b,x,rfl,fun _ _ e=>e,hB,?_⟩
    unfold restAt;rw [hx]
    cases x with
    | penalty k=>exact absurd rfl z
    | _=>exact Hz hx
  ·rintro σ' H2 ⟨b',x',rfl,s2,hb',er⟩
   have A2:=A1.same s2
   obtain ⟨ws,hw1,hw2⟩:=A2.owt
   refine ⟨_,rfl,g.a,g.dx,_,_,rfl,A2.obj,rfl,_,rfl,(sz 1),fun l3 n3=>?_⟩
   generalize e3:a6 H2 l3 _=H3
   have s3:aK H2 H3:=e3▸aK.new n3
   have f3:H3 l3=some (.lst [.ref b']):=e3▸aD
   refine ⟨g.wt,l3,_,_,rfl,rfl,.inl (s3 _ _ hw1),.inl f3,?_,fun l4 n4=>?_⟩
   ·rw [length_map,hw2.len,sizeLine_eq];show _+1<=_;omega
   generalize e4:a6 H3 l4 _=H4
   have s4:aK H3 H4:=e4▸aK.new n4
   have f4:H4 l4=some (.lst (ws.map V.ref++[.ref b'])):=e4▸aD
   have u4:aK H H4:=s2.trans (s3.trans s4)
   refine ⟨_,rfl,_,rfl,_,_,rfl,rfl,_,rfl,la,_,rfl,u4.seq hL,fun l5 n5=>?_⟩
   rw [show ((i:Nat):Int)+1=((i+1:Nat):Int) from rfl,w6,<-List.map_drop]
   generalize e5:a6 H4 l5 _=H5
   have s5:aK H4 H5:=e5▸aK.new n5
   have f5:H5 l5=some (.lst ((as.drop (i+1)).map V.ref)):=e5▸aD
   refine ⟨l4,l5,_,_,rfl,rfl,.inl (s5 _ _ f4),.inl f5,?_,fun l6 n6=>?_⟩
   ·rw [length_append,length_map,hw2.len,length_map,length_drop,hT.len,sizeLine_eq];show _+1+_<=_;omega
   have u5:aK H H5:=u4.trans s5
   have s6:∀ o,aK H5 (a6 H5 l6 o):=fun o=>aK.new n6
   refine q l6 (ws++[b']++as.drop (i+1)) _ (u5.trans (s6 _)) (u5.free n6) (by rw [aD];simp) ?_
   rw [er,show x'::l.drop (i+1)=[x']++l.drop (i+1) from rfl,<-append_assoc]
   have v5:aK H2 H5:=s3.trans (s4.trans s5)
   exact ((hw2.fix (v5.trans (s6 _)).fix).append (aL.one (hb'.fix (v5.trans (s6 _)).fix))).append ((hT.drop (i+1)).fix (u5.trans (s6 _)).fix)
def wY(k:Int)(ms:List Nat):Int:=match ms.head? with
 | some m=>(m:Int)
 | none=>k
def t4(k:Int)(ms:List Nat):Int:=match ms.getLast? with
 | some m=>(m:Int)
 | none=>k
inductive x9(t:bH)(K:Frag)(vs:List V)(H:Hp)(Q:VK)(E:XK):Prop
 | mk:∀ (k:Int) (s:SgPage.Style) (p:Sofar) (bC cl:Addr) (bg hs:Bool) (g:Pa),vs=[.ref g.a,.int k]->a9 t H s p bC cl bg hs g->p.things.length<=100000->(∀ q H',aK H H'->H q=none->H' q=some (.lst [.int k,.int (wY k (marksOf p.things)),.int (t4 k (marksOf p.things))])->Q (.ref q) H')->x9 t K vs H Q E
theorem Fg{l:List Thing}{i:Nat}{x:Thing}(h:l[i]?=some x):marksOf (l.take (i+1))=marksOf (l.take i)++marksOf [x]:=by
 rw [List.take_add_one,h,cG];rfl
theorem NP(l:List Thing):(marksOf l).length<=l.length:=List.length_filterMap_le _ _
theorem Gw{t:bH}(T:b7 K mg t):bL P w K mg base hJ 1 t.lI.f t.lI.fd ["page","top"] (x9 t K):=by
 refine T.lI.F.ok qG (fun vs H Q E h=>?_) (fun cdv A outer s H vs Q E hr h=>?_)
 ·obtain ⟨k,s,p,bC,cl,bg,hs,g,rfl,_⟩:=h
  rfl
 ·obtain ⟨k,S,p,bC,cl,bg,hs,g,rfl,A1,hl,q⟩:=h
  refine ⟨_,(aB (O_ (i:=2) (own:=[("thing",3)]) rfl qG.nd rfl rfl (Qv rfl rfl rfl rfl) (wQ (aZ T.aO.cl T.iU (pv 0))) (show Dk BN (aI sC) _ _ from FV (by decide +kernel)) (fun _ _ _ _ _=>i8 (i:=3) qG.nd rfl (Or.inl rfl)) (fun _ _ _ _ _=>(Mo (tc bY (fZ T.aP.cl T.bS thK (pv 3)) (aW T.N2)))) (fun _ _ _ _ _=>(SN (r9 T.aP.cl T.cI (pv 3)) aG))) (aB (a_ (tc bY (ln T.f_ (pv 2)) aG) (aE (aM (bR (aA (pv 1) (aA (pv 1) (aA (pv 1) aF)))))) aR) (aE (aM (bR (aA (pv 1) (aA (ix (pv 2) aG) (aA (ix (pv 2) (o7 jV aG)) aF)))))))),?_⟩
  obtain ⟨as,h1,h2⟩:=A1.oth
  refine ⟨_,rfl,g.a,g.dx,_,_,rfl,A1.obj,rfl,g.th,rfl,⟨_,cT.of h1⟩,fun D nD=>?_⟩
  have sD:∀ o,aK H (a6 H D o):=fun o=>aK.new nD
  refine Mu (K:=K) (a:=g.th) (xs:=as.map V.ref) (fun i H'=>H'=a6 H D (.lst ((marksOf (p.things.take i)).map fun (n:Nat)=>V.int (n:Int)))) rfl (fun i H' _ e=>by rw [e];exact cT.of (sD _ _ _ h1)) ?_ ?_
  ·rintro i y H' hi rfl
   obtain ⟨a,ha,rfl⟩:=wR hi
   obtain ⟨x,hx,hA⟩:=h2.get ha
   have hA2:=hA.fix (sD (.lst ((marksOf (p.things.take i)).map fun (n:Nat)=>V.int (n:Int)))).fix (t:=t)
   refine ⟨rfl,_,rfl,a,x,rfl,hA2,rfl,_,rfl,aQ (fun z=>?_) fun z=>?_⟩
   ·rw [a8,decide_eq_true_eq] at z
    cases x with
    | mark m =>
     refine ⟨_,rfl,a,_,rfl,hA2,fun nl hz=>⟨nl,_,_,_,rfl,rfl,hz.sq,pQ (i:=1) rfl,_,aD,?_,?_⟩⟩
     ·have:=NP (p.things.take i)
      rw [length_take] at this
      rw [length_map,sizeLine_eq];omega
     ·rw [bU,Fg hx,map_append];rfl
    | _=>cases z
   ·rw [a8,decide_eq_false_iff_not] at z
    show a6 _ _ _=a6 _ _ _
    rw [Fg hx,j2 (t:=x) (fun m e=>by subst e;exact z rfl),List.append_nil]
  ·rintro H' rfl
   have el:p.things.take (as.map V.ref).length=p.things:=by rw [length_map,h2.len,List.take_length]
   rw [el]
   have q3:∀ a b c:Int,a=k->b=wY k (marksOf p.things)->c=t4 k (marksOf p.things)->([V.int a,V.int b,V.int c].length<=sizeLine/\∀ q,a6 H D (.lst ((marksOf p.things).map fun (n:Nat)=>V.int (n:Int))) q=none->Q (.ref q) (a6 (a6 H D (.lst ((marksOf p.things).map fun (n:Nat)=>V.int (n:Int)))) q (.lst [V.int a,V.int b,V.int c]))):=by
    rintro a b c rfl rfl rfl
    refine ⟨by show 3<=sizeLine;decide,fun p' np=>q p' _ ((sD _).trans (aK.new np)) ((sD _).free np) aD⟩
   refine ⟨_,rfl,D,_,rfl,.inl (cT.of aD),rfl,_,rfl,aQ (fun z=>?_) fun z=>?_⟩
   ·rw [a8,length_map,decide_eq_true_eq] at z
    have e0:marksOf p.things=[]:=List.length_eq_zero_iff.mp (by omega)
    exact ⟨_,rfl,_,rfl,_,rfl,q3 _ _ _ rfl (by rw [e0];rfl) (by rw [e0];rfl)⟩
   ·rw [a8,length_map,decide_eq_false_iff_not] at z
    have hne:marksOf p.things≠[]:=fun e=>z (by rw [e];rfl)
    obtain ⟨m,r,em⟩:=List.exists_cons_of_ne_nil hne
    have em2:=(List.dropLast_concat_getLast hne).symm
    generalize (marksOf p.things).dropLast=xs at em2
    generalize (marksOf p.things).getLast hne=y at em2
    have f0:atI ((marksOf p.things).map fun (n:Nat)=>V.int (n:Int)) 0=some (.int (m:Int)):=by rw [em];exact b6 (j:=0) rfl
    have fl:atI ((marksOf p.things).map fun (n:Nat)=>V.int (n:Int)) (-1)=some (.int (y:Int)):=by rw [em2,map_append];exact O6 _ _
    exact ⟨_,rfl,_,rfl,D,_,_,_,rfl,rfl,cT.of aD,f0,_,rfl,_,rfl,D,_,_,_,rfl,rfl,cT.of aD,fl,q3 _ _ _ rfl (by rw [em];rfl) (by rw [em2];simp [t4])⟩
def kvx(xs:List (Nat×Addr×List Addr×List Thing)):List (fY×V):=xs.map fun x=>(ck x.1,.ref x.2.1)
def KW(t:bH)(H:Hp)(av d:Addr)(L:List (Nat×List Thing)):Prop:=∃ xs:List (Nat×Addr×List Addr×List Thing),H d=some (.dK (kvx xs))/\L=xs.map (fun x=>(x.1,x.2.2.2))/\(xs.map (·.1)).Nodup/\∀ x∈xs,H x.2.1=some (.lst (x.2.2.1.map V.ref))/\aL t H x.2.2.1 x.2.2.2/\x.2.1≠av
def dS(p:Sofar):List (Nat×List Thing):=((p.classes.filter fun (x:OnPage)=>!x.things.isEmpty).map fun (x:OnPage)=>(x.cls,x.things)).foldr insertClass []
theorem Sr{p:Sofar}(nd:(p.classes.map (·.cls)).Nodup){o:OnPage}(ho:o∈p.classes):a7 p o.cls=o:=by
 unfold a7 classOn
 have:∀ (l:List OnPage),(l.map (·.cls)).Nodup->o∈l->l.find? (fun y=>y.cls==o.cls)=some o:=by
  intro l
  induction l with
  | nil=>intro _ h;cases h
  | cons y r ih =>
   intro hn hm
   rw [map_cons,List.nodup_cons] at hn
   rcases mem_cons.mp hm with rfl|hm
   ·rw [List.find?_cons_of_pos (by simp)]
   ·rw [List.find?_cons_of_neg,ih hn.2 hm]
    intro z
    exact hn.1 (mem_map.mpr ⟨o,hm,(by simpa using z:y.cls=o.cls).symm⟩)
 rw [this _ nd ho];rfl
theorem Oi{xs:List (Nat×Addr×List Addr×List Thing)}{c:Nat}(h:c∉xs.map (·.1)):eM (kvx xs) (ck c)=none:=by
 induction xs with
 | nil=>rfl
 | cons x r ih =>
  rw [map_cons,mem_cons,not_or] at h
  show eM ((ck x.1,V.ref x.2.1)::kvx r) (ck c)=none
  rw [eI (fun e=>h.1 (by have:=Sum.inl.inj e;omega))]
  exact ih h.2
theorem N0{kvs:List (fY×V)}{k:fY}{v:V}(h:eM kvs k=none):nW kvs k v=kvs++[(k,v)]:=by
 unfold nW
 rw [qZ,h,if_neg (by simp)]
theorem PF{ns:List Int}{ms:List Nat}(h:ns.Perm (ms.map fun (n:Nat)=>(n:Int))):∃ ks:List Nat,ns=ks.map (fun (n:Nat)=>(n:Int))/\ks.Perm ms:=by
 refine ⟨ns.map Int.toNat,?_,?_⟩
 ·rw [List.map_map]
  symm
  rw [List.map_congr_left (g:=id)]
  ·simp
  ·intro x hx
   have:=h.subset hx
   obtain ⟨n,_,rfl⟩:=mem_map.mp this
   simp
 ·have:=h.map Int.toNat
  rw [List.map_map] at this
  have e:(ms.map (Int.toNat∘fun (n:Nat)=>(n:Int)))=ms:=by
   rw [List.map_congr_left (g:=id)]
   ·simp
   ·intro x _;simp
  rwa [e] at this
theorem QT{H:Hp}{d:Addr}{o:HO}(h:H d=some o):H=a6 H d o:=by
 funext b
 by_cases e:b=d
 ·subst e;rw [aD,h]
 ·rw [aJ e]
inductive k9(t:bH)(K:Frag)(vs:List V)(H:Hp)(Q:VK)(E:XK):Prop
 | mk:∀ (s:SgPage.Style) (p:Sofar) (bC cl:Addr) (bg hs:Bool) (g:Pa) (av:Addr),vs=[.ref g.a]->a9 t H s p bC cl bg hs g->(p.classes.map (·.cls)).Nodup->g.cs.length<=100000->(∀ b∈g.tls,b≠av)->(∀ d H',aK H H'->H d=none->KW t H' av d (dS p)->Q (.ref d) H')->k9 t K vs H Q E
theorem PZ{ks:List Nat}(h1:(ks.map fun (n:Nat)=>(n:Int)).Pairwise (·<=·))(h2:ks.Nodup):ks.Pairwise (·<·):=by
 rw [List.pairwise_map] at h1
 refine (h1.and h2).imp fun {a b} ⟨h,n⟩=>?_
 omega
theorem LZ{t:bH}{H:Hp}{s:SgPage.Style}{p:Sofar}{bC cl:Addr}{bg hs:Bool}{g:Pa}(A:a9 t H s p bC cl bg hs g)(nd:(p.classes.map (·.cls)).Nodup){ks:List Nat}(h1:ks.Pairwise (·<·))(h2:ks.Perm (g.cs.map (·.1))) :
 dS p=(ks.filter fun m=>!(a7 p m).things.isEmpty).map fun m=>(m,(a7 p m).things):=by
 have ndf:(((p.classes.filter fun (x:OnPage)=>!x.things.isEmpty).map fun (x:OnPage)=>(x.cls,x.things)).map (·.1)).Nodup:=by
  rw [List.map_map]
  exact nd.sublist (List.Sublist.map _ List.filter_sublist)
 obtain ⟨r1,r2⟩:=mE ndf
 refine Fc r1 ?_ fun y=>?_
 ·unfold uT
  rw [List.pairwise_map]
  exact h1.sublist List.filter_sublist
 ·show y∈List.foldr insertClass [] _↔_
  rw [r2]
  constructor
  ·intro hy
   obtain ⟨o,ho,rfl⟩:=mem_map.mp hy
   obtain ⟨ho,hne⟩:=List.mem_filter.mp ho
   have e:=Sr nd ho
   refine mem_map.mpr ⟨o.cls,List.mem_filter.mpr ⟨h2.symm.subset (A.cov o ho),by rw [e];exact hne⟩,by rw [e]⟩
  ·intro hy
   obtain ⟨m,hm,rfl⟩:=mem_map.mp hy
   obtain ⟨hm,hne⟩:=List.mem_filter.mp hm
   rcases Ay (p:=p) (c:=m) with h|h
   ·exact mem_map.mpr ⟨a7 p m,List.mem_filter.mpr ⟨h,hne⟩,by rw [qU]⟩
   ·rw [h] at hne;cases hne
theorem tQ{t:bH}(T:b7 K mg t):bL P w K mg base hJ 1 t.dP.f t.dP.fd ["page"] (k9 t K):=by
 refine T.dP.F.ok fA (fun vs H Q E h=>?_) (fun cdv A outer s H vs Q E hr h=>?_)
 ·obtain ⟨s,p,bC,cl,bg,hs,g,av,rfl,_⟩:=h
  rfl
 ·obtain ⟨S,p,bC,cl,bg,hs,g,av,rfl,A1,hnd,hcl,hav,q⟩:=h
  refine ⟨_,(aB (sv 1 fA.nd Br) (aB (p7 PassesOwn.never rfl (wQ (jI (Io rfl) (by rfl) T.Oe NV (aA (aZ T.aO.cl T.iS (pv 0)) aF))) (i8 (i:=2) fA.nd rfl (Or.inl rfl)) (aB (sv 3 fA.nd (aZ T.bV.cl T.eB (D_ (Dl hr) (aZ T.aO.cl T.iS (pv 0)) (pv 2) (fun _ _=>rfl)))) (aE (a_ (tc sP (ln T.f_ (pv 3)) aG) (aE (ML (Dl hr) (pv 1) (pv 2) (pv 3) rfl)) aR)))) (aE (aM (pv 1))))),?_⟩
  intro d nd
  generalize e1:a6 H d _=H1
  have s1:aK H H1:=e1▸aK.new nd
  have f1:H1 d=some (.dK []):=e1▸aD
  have A2:=A1.same s1
  refine ⟨_,rfl,g.a,g.dx,_,_,rfl,A2.obj,rfl,g.nL,fJ g.cs,(g.cs.map (·.1)).map (fun (n:Nat)=>(n:Int)),rfl,.inl A2.p9,?_,fun ns l2 hp hpw n2=>?_⟩
  ·unfold fJ;rw [List.map_map,List.map_map,List.map_map];rfl
  obtain ⟨ks,rfl,hks⟩:=PF hp
  have hknd:ks.Nodup:=hks.nodup_iff.mpr A1.ndc
  have hrise:=PZ hpw hknd
  generalize e2:a6 H1 l2 _=H2
  have s2:aK H1 H2:=e2▸aK.new n2
  have f2:H2 l2=some _:=e2▸aD
  have u2:aK H H2:=s1.trans s2
  have f12:H2 d=some (.dK []):=s2 _ _ f1
  have hdl:d≠l2:=cX f12 f2 nofun
  have sd:∀ o,aK H (a6 H2 d o):=fun o b u e=>by rw [aJ (aH e nd)];exact u2 _ _ e
  have hkl:ks.length<=100000:=by have:=hks.length_eq;rw [length_map] at this;omega
  refine ⟨l2,rfl,⟨_,cT.of f2⟩,BA (K:=K) (a:=l2) (xs:=(ks.map fun (n:Nat)=>(n:Int)).map V.int) (fun i σ H'=>∃ (xs:List (Nat×Addr×List Addr×List Thing)) (v2 v3:Option V),σ=[some (.ref g.a),some (.ref d),v2,v3]/\H'=a6 H2 d (.dK (kvx xs))/\xs.map (fun x=>(x.1,x.2.2.2))=((ks.take i).filter fun m=>!(a7 p m).things.isEmpty).map (fun m=>(m,(a7 p m).things))/\∀ x∈xs,H x.2.1=some (.lst (x.2.2.1.map V.ref))/\aL t H x.2.2.1 x.2.2.2/\x.2.1≠av)
   ⟨[],none,none,rfl,QT f12,rfl,(fun x hx=>nomatch hx)⟩ (fun i σ H' _ ⟨xs,v2,v3,_,e,_⟩=>by rw [e];exact cT.of ((aJ (Ne.symm hdl)).trans f2)) ?_ ?_⟩
  ·rintro i y σ H' hi ⟨xs,v2,v3,rfl,rfl,exs,hxs⟩
   rw [List.map_map] at hi
   obtain ⟨m,hm,rfl⟩:=wR hi
   have hmc:m∈g.cs.map (·.1):=hks.subset (List.mem_of_getElem? hm)
   obtain ⟨⟨c,sa,tl⟩,hx,rfl⟩:=mem_map.mp hmc
   have A3:=A1.same (sd (.dK (kvx xs)))
   obtain ⟨sdx,bs,h1,h2,h3⟩:=A3.sh _ hx
   have hv:eM (fJ g.cs) (ck c)=some (.ref sa):=by
    cases e:eM (fJ g.cs) (ck c) with
    | none=>exact absurd (mem_map.mpr ⟨_,hx,rfl⟩) (Mp e)
    | some v =>
     obtain ⟨sa',tl',hx',rfl⟩:=HA e
     by_cases hh:sa'=sa
     ·rw [hh]
     ·exfalso
      have:∀ (l:List (Nat×Addr×Addr)),(l.map (·.1)).Nodup->(c,sa,tl)∈l->(c,sa',tl')∈l->sa'=sa:=by
       intro l
       induction l with
       | nil=>intro _ h;cases h
       | cons z r ih =>
        intro hn h1 h2
        rw [map_cons,List.nodup_cons] at hn
        rcases mem_cons.mp h1 with h1|h1<;>rcases mem_cons.mp h2 with h2|h2
        ·have:=h1.trans h2.symm;simp at this;exact this.1.symm
        ·exact absurd (mem_map.mpr ⟨_,h2,by rw [<-h1]⟩) hn.1
        ·exact absurd (mem_map.mpr ⟨_,h1,by rw [<-h2]⟩) hn.1
        ·exact ih hn.2 h1 h2
      exact hh (this g.cs A1.ndc hx hx')
   refine ⟨_,rfl,g.a,g.dx,_,_,rfl,A3.obj,rfl,_,rfl,g.nL,.ref sa,rfl,hv▸As.k (k:=ck c) A3.p9,sa,sdx,_,_,rfl,h1,rfl,?_⟩
   have hnx:c∉xs.map (·.1):=by
    have:xs.map (·.1)=(xs.map (fun x=>(x.1,x.2.2.2))).map (·.1):=by rw [List.map_map];rfl
    rw [this,exs,List.map_map]
    intro hh
    obtain ⟨m2,hm2,e2⟩:=mem_map.mp hh
    have hm2:=(List.mem_filter.mp hm2).1
    have e2:m2=c:=e2
    subst e2
    have:=List.mem_take_iff_getElem.mp hm2
    obtain ⟨j,hj,ej⟩:=this
    have hi':=(List.getElem?_eq_some_iff.mp hm).1
    have:j=i:=(List.getElem_inj hknd).mp (ej.trans (List.getElem?_eq_some_iff.mp hm).2.symm)
    omega
   refine ⟨_,rfl,tl,_,rfl,.inl (cT.of h2),_,_,rfl,rfl,_,rfl,?_⟩
   have hdec:decide ((0:Int)<((bs.map V.ref).length:Int))=!(a7 p c).things.isEmpty:=by
    rw [length_map,h3.len]
    cases (a7 p c).things with
    | nil=>rfl
    | cons _ _=>show decide _=true;rw [decide_eq_true_eq,length_cons];omega
   show (if decide ((0:Int)<((bs.map V.ref).length:Int))=true then _ else _)
   rw [hdec]
   have etk:ks.take (i+1)=ks.take i++[c]:=by rw [List.take_add_one,hm];rfl
   refine aQ (fun z=>?_) fun z=>?_
   ·refine ⟨_,rfl,_,rfl,_,rfl,d,_,rfl,NX.k (k:=ck c) aD ?_,xs++[(c,tl,bs,(a7 p c).things)],_,_,rfl,?_,?_,?_⟩
    ·have:xs.length<=ks.length:=by
      have:=congrArg List.length exs
      rw [length_map,length_map] at this
      have h5:=List.length_filter_le (fun m=>!(a7 p m).things.isEmpty) (ks.take i)
      rw [length_take] at h5
      omega
     unfold kvx;rw [length_map,sizeLine_eq];omega
    ·rw [bU,N0 (Oi hnx)];unfold kvx;rw [map_append];rfl
    ·rw [map_append,exs,etk,List.filter_append,map_append]
     simp [z]
    ·intro x hx'
     rcases mem_append.mp hx' with h|h
     ·exact hxs x h
     ·simp at h;subst h
      obtain ⟨sdx',bs',y1,y2,y3⟩:=A1.sh _ hx
      have eb:bs'=bs:=by
       have:=sd (.dK (kvx xs)) _ _ y2
       rw [h2] at this
       have:=HO.lst.inj (Option.some.inj this)
       exact (List.map_inj_right (fun a b e=>V.ref.inj e)).mp this.symm
      subst eb
      exact ⟨y2,y3,hav _ (mem_map.mpr ⟨_,hx,rfl⟩)⟩
   ·refine ⟨xs,_,_,rfl,rfl,?_,hxs⟩
    rw [exs,etk,List.filter_append]
    simp [z]
  ·rintro σ H' ⟨xs,v2,v3,rfl,rfl,exs,hxs⟩
   have el:ks.take ((ks.map fun (n:Nat)=>(n:Int)).map V.int).length=ks:=by rw [length_map,length_map,List.take_length]
   rw [el] at exs
   refine ⟨_,rfl,q d _ (sd _) nd ⟨xs,aD,?_,?_,fun x hx=>⟨sd _ _ _ (hxs x hx).1,(hxs x hx).2.1.fix (sd _).fix,(hxs x hx).2.2⟩⟩⟩
   ·rw [exs];exact LZ A1 hnd hrise hks
   ·have:xs.map (·.1)=(xs.map (fun x=>(x.1,x.2.2.2))).map (·.1):=by rw [List.map_map];rfl
    rw [this,exs,List.map_map]
    have:((fun x=>x.1)∘fun m=>(m,(a7 p m).things))=(id:Nat->Nat):=rfl
    rw [this,List.map_id]
    exact hknd.sublist List.filter_sublist
end
theorem QH{K:Frag}{hp:Heap}{nm:Str}{ca:Addr}{bl:List Value}{nid:String}{mg:Str->Option Value}(hk:K.In hp)(hm:mg nm=some (.ref ca))(hq:PySem.W.excIn K ca bl nid=true):OwnCls nm ca bl nid mg hp:=by
 refine ⟨hm,?_⟩
 unfold PySem.W.excIn at hq
 split at hq
 case h_2=>cases hq
 case h_1 dct cd0 slots look =>
  split at hq
  case h_2=>cases hq
  case h_1 c1 behind a0 a1 a2 a3 nn a5 hmro hsl =>
   simp only [Bool.and_eq_true,beq_iff_eq,Bool.not_eq_true'] at hq
   obtain ⟨⟨⟨⟨⟨x1,x2⟩,x3⟩,x4⟩,x5⟩,x6⟩:=hq
   have es:slots=#[a0,a1,a2,a3,some (.builtin nn),a5]:=by
    cases slots with
    | mk q=>exact congrArg Array.mk hsl
   have at0:=hk _ _ look
   cases cd0 with
   | mk y1 y2 y3 y4 y5 y6 y7 y8 y9 y10 y11 =>
    simp only at hmro x3 x4 x5 x6
    rw [es,hmro,x3,x1,x2] at at0
    exact ⟨behind,y4,y1,y5,y2,y6,y7,y8,y9,y10,dct,a0,a1,a2,a3,a5,_,at0,.of_isNs (PySem.W.isNs_of_in hk x5),PySem.W.nsMap_none_of_in hk x5 x6,PySem.W.tail_of_in hk x4⟩
section
variable {X:Cx}{E:XK}{x:Str}{C:Addr}{m:Str}{j:Nat}{p np cpos pos:Pos}{st:Stmt}
theorem dQ(hR:AZ X E)(hh:X.A.handled=none)(hg:Gl X x)(T:ExT X.K X.mg x C)(hd:(x==("__debug__":Str))=false:=by decide) :
 PS X (.Raise (some (.Call (.Name x np) [.Constant (.str m) j p] [] cpos)) none pos) (fun _ _ H=>E (.ref C) none H):=by
 obtain ⟨bm,nid,h1,B,i,h2⟩:=T.ex
 intro pins s σ H D I hE
 exact Oz hR hh hg (QH I.mod.kin T.g h1) h2 hd pins s σ H D I hE
theorem Nn:PS X st (fun _ _ _=>False):=fun _ _ _ _ _ _ h=>h.elim
end
section
variable {P:Program}{w:World}{K:Frag}{mg:Str->Option Value}{base:Heap}
inductive Bm(t:bH)(K:Frag)(vs:List V)(H:Hp)(Q:VK)(E:XK):Prop
 | mk:∀ k:Int,vs=[.int k]->Q (.bl (isLen k)) H->Bm t K vs H Q E
inductive pL(t:bH)(K:Frag)(vs:List V)(H:Hp)(Q:VK)(E:XK):Prop
 | mk:∀ k:Int,vs=[.int k]->Q (.bl (decide (0<=k)&&decide (k<=3))) H->pL t K vs H Q E
inductive Dh(t:bH)(K:Frag)(vs:List V)(H:Hp)(Q:VK)(E:XK):Prop
 | mk:∀ k:Int,vs=[.int k]->Q (.bl (decide (0<=k)&&decide (k<=255))) H->Dh t K vs H Q E
theorem i7{t:bH}(T:b7 K mg t):bL P w K mg base hJ 1 t.gK.f t.gK.fd ["number"] (Bm t K):=by
 refine T.gK.F.ok Jf (fun vs H Q E h=>?_) (fun cdv A outer s H vs Q E hr h=>?_)
 ·obtain ⟨k,rfl,_⟩:=h
  rfl
 ·obtain ⟨k,rfl,q⟩:=h
  have q:∀ d,(decide (-FAR<=k)&&decide (k<=FAR))=d->Q (.bl d) H:=fun d e=>e▸(show Q (.bl (isLen k)) H from q)
  refine ⟨_,(aE (aM (EV pT pT (o7 jV (aW T.qQ)) (pv 0) (aW T.qQ)))),?_⟩
  refine ⟨_,rfl,_,rfl,_,_,rfl,rfl,_,rfl,aQ (fun z=>⟨_,_,rfl,rfl,q _ ?_⟩) fun z=>q _ ?_⟩
  ·show (decide (-1073741823<=k)&&_)=_;rw [z,Bool.true_and];rfl
  ·show (decide (-1073741823<=k)&&_)=_;rw [z,Bool.false_and]
theorem Ds{t:bH}(T:b7 K mg t):bL P w K mg base hJ 1 t.oI.f t.oI.fd ["number"] (pL t K):=by
 refine T.oI.F.ok KA (fun vs H Q E h=>?_) (fun cdv A outer s H vs Q E hr h=>?_)
 ·obtain ⟨k,rfl,_⟩:=h
  rfl
 ·obtain ⟨k,rfl,q⟩:=h
  have q:∀ d,(decide (0<=k)&&decide (k<=3))=d->Q (.bl d) H:=fun d e=>e▸q
  refine ⟨_,(aE (aM (EV pT pT aG (pv 0) (aW T.tO)))),?_⟩
  refine ⟨_,rfl,_,_,rfl,rfl,_,rfl,aQ (fun z=>⟨_,_,rfl,rfl,q _ ?_⟩) fun z=>q _ ?_⟩
  ·rw [z,Bool.true_and]
  ·rw [z,Bool.false_and]
theorem Kt{t:bH}(T:b7 K mg t):bL P w K mg base hJ 1 t.qX.f t.qX.fd ["number"] (Dh t K):=by
 refine T.qX.F.ok Ka (fun vs H Q E h=>?_) (fun cdv A outer s H vs Q E hr h=>?_)
 ·obtain ⟨k,rfl,_⟩:=h
  rfl
 ·obtain ⟨k,rfl,q⟩:=h
  have q:∀ d,(decide (0<=k)&&decide (k<=255))=d->Q (.bl d) H:=fun d e=>e▸q
  refine ⟨_,(aE (aM (EV pT pT aG (pv 0) (aW T.mV)))),?_⟩
  refine ⟨_,rfl,_,_,rfl,rfl,_,rfl,aQ (fun z=>⟨_,_,rfl,rfl,q _ ?_⟩) fun z=>q _ ?_⟩
  ·rw [z,Bool.true_and]
  ·rw [z,Bool.false_and]
def lW(r:List Int):Bool:=match r with
 | [a,b,c,d,e]=>(isLen a&&(isLen b&&isLen d))&&((decide (0<=c)&&decide (c<=3))&&(decide (0<=e)&&decide (e<=3)))
 | _=>false
theorem wD{r:List Int}(h:r.length≠5):lW r=false:=by
 unfold lW
 split
 ·exact absurd rfl h
 ·rfl
inductive vR(t:bH)(K:Frag)(vs:List V)(H:Hp)(Q:VK)(E:XK):Prop
 | mk:∀ (la:Addr) (r:List Int),vs=[.ref la]->cT K H la (r.map V.int)->Q (.bl (lW r)) H->vR t K vs H Q E
theorem oR{t:bH}(T:b7 K mg t):bL P w K mg base hJ 2 t.gQ.f t.gQ.fd ["numbers"] (vR t K):=by
 refine T.gQ.F.ok wB (fun vs H Q E h=>?_) (fun cdv A outer s H vs Q E hr h=>?_)
 ·obtain ⟨la,r,rfl,_⟩:=h
  rfl
 ·obtain ⟨la,r,rfl,hL,q⟩:=h
  refine ⟨_,(aB (a_ (tc Mm (ln T.f_ (pv 0)) aG) (aE (aM mG)) aR) (aB (sv 1 wB.nd (vM (cf (i7 T) T.gK hr aV (aA (ix (pv 0) aG) aF)) (vM (cf (i7 T) T.gK hr aV (aA (ix (pv 0) aG) aF)) (qC (cf (i7 T) T.gK hr aV (aA (ix (pv 0) aG) aF)))))) (aE (aM (vM (pv 1) (vM (cf (Ds T) T.oI hr aV (aA (ix (pv 0) aG) aF)) (qC (cf (Ds T) T.oI hr aV (aA (ix (pv 0) aG) aF))))))))),?_⟩
  refine ⟨_,rfl,la,_,rfl,.inl hL,rfl,_,rfl,aQ (fun z=>?_) fun z=>?_⟩
  ·rw [a8,length_map] at z
   rw [wD (fun e=>by rw [e] at z;simp at z)] at q
   exact q
  ·rw [a8,length_map] at z
   have h5:r.length=5:=by simp at z;omega
   match r,h5 with
   | [a,b,c,d,e],_ =>
    have q:∀ v,((isLen a&&(isLen b&&isLen d))&&((decide (0<=c)&&decide (c<=3))&&(decide (0<=e)&&decide (e<=3))))=v->Q (.bl v) H:=fun v e=>e▸(show Q (.bl (lW [a,b,c,d,_])) H from q)
    have last:∀ v1,(isLen a&&(isLen b&&isLen d))=v1->Rn (Pc (IZ 1) (Pc (Hh (pL t K) [] E0 (HC (tOp (Ls K) (IZ 0) (tC (V.int 2))) Gb)) (Hh (pL t K) [] E0 (HC (tOp (Ls K) (IZ 0) (tC (V.int 4))) Gb)))) { nx:=fun _ H'=>Q .eX H',rt:=Q } [some (.ref la),some (.bl v1)] H:=by
     intro v1 e1
     rw [e1] at q
     refine ⟨_,rfl,_,rfl,aQ (fun z=>?_) fun z=>?_⟩
     ·rw [z] at q
      refine ⟨_,rfl,la,_,_,_,rfl,rfl,hL,b6 (j:=2) (v:=.int c) rfl,c,rfl,_,rfl,aQ (fun z2=>?_) fun z2=>?_⟩
      ·exact ⟨_,rfl,la,_,_,_,rfl,rfl,hL,b6 (j:=4) (v:=.int e) rfl,e,rfl,q _ (by rw [Bool.true_and,z2,Bool.true_and])⟩
      ·exact q _ (by rw [Bool.true_and,z2,Bool.false_and])
     ·rw [z] at q
      exact q _ (by rw [Bool.false_and])
    refine ⟨_,rfl,la,_,_,_,rfl,rfl,hL,b6 (j:=0) (v:=.int a) rfl,a,rfl,_,rfl,aQ (fun y1=>⟨_,rfl,la,_,_,_,rfl,rfl,hL,b6 (j:=1) (v:=.int b) rfl,b,rfl,_,rfl,aQ (fun y2=>⟨_,rfl,la,_,_,_,rfl,rfl,hL,b6 (j:=3) (v:=.int d) rfl,d,rfl,?_⟩) fun y2=>?_⟩) fun y1=>?_⟩
    ·exact last _ (by rw [y1,y2,Bool.true_and,Bool.true_and])
    ·exact last _ (by rw [y1,y2,Bool.true_and,Bool.false_and])
    ·exact last _ (by rw [y1,Bool.false_and])
def rdF(nl:Addr)(k:Nat):List (Str×V):=[("numbers",.ref nl),("place",.int (k:Int))]
structure kZ(t:bH)(H:Hp)(a dx nl:Addr)(ns:List Int)(k:Nat):Prop where
 obj:H a=some (.ins t.gV dx (rdF nl k))
 nums:Rd H nl (.lst (ns.map V.int))
 len:ns.length<=5000000
 le:k<=ns.length
theorem b7.Nk{t:bH}(T:b7 K mg t){dx:Addr}{fs:List (Str×V)}:¬ oU t (.ins t.gV dx fs):=CJ (Ne.symm T.DQ) (by first|exact T.ne_Reader_Style|exact Ne.symm T.DW) (by first|exact T.ne_Reader_ClassStyle|exact Ne.symm T.vU)
theorem kZ.ne{t:bH}{H:Hp}{a dx nl:Addr}{ns:List Int}{k:Nat}(R:kZ t H a dx nl ns k):nl≠a:=by
 intro z
 have o:=R.obj
 rcases R.nums with h|⟨ob,h⟩
 ·rw [z,o] at h;cases h
 ·rw [z,o] at h;cases h
theorem kZ.same{t:bH}{H H':Hp}{a dx nl:Addr}{ns:List Int}{k:Nat}(R:kZ t H a dx nl ns k)(s:aK H H'):kZ t H' a dx nl ns k:=⟨s _ _ R.obj,s.rd R.nums,R.len,R.le⟩
theorem kZ.move{t:bH}{H:Hp}{a dx nl:Addr}{ns:List Int}{k k':Nat}(R:kZ t H a dx nl ns k)(h:k'<=ns.length):kZ t (a6 H a (.ins t.gV dx (rdF nl k'))) a dx nl ns k':=by
 have n:=R.ne
 exact ⟨aD,R.nums.imp (fun e=>by rw [aJ n];exact e) fun ⟨ob,e⟩=>⟨ob,by rw [aJ n];exact e⟩,R.len,h⟩
def FI(t:bH)(H:Hp)(a:Addr)(E:XK):Prop:=∀ H',bG [a] H H'->E (.ref t.cC) none H'
theorem FI.up{t:bH}{H H':Hp}{a:Addr}{E:XK}(w:FI t H a E)(u:bG [a] H H'):FI t H' a E:=fun H2 u2=>w H2 (u.trans u2)
def yX{α:Type}(t:bH)(H:Hp)(a dx nl:Addr)(ns:List Int)(k:Nat)(f:List Int->Option (α×List Int))(E:XK)(Q:α->Hp->Prop):Prop:=kZ t H a dx nl ns k/\(f (ns.drop k)=none->FI t H a E) ∧
 ∀ x k',f (ns.drop k)=some (x,ns.drop k')->k<=k'->∀ H',bG [a] H H'->kZ t H' a dx nl ns k'->Q x H'
inductive uA(t:bH)(K:Frag)(vs:List V)(H:Hp)(Q:VK)(E:XK):Prop
 | mk:∀ (p dx nl:Addr) (ns:List Int),vs=[.ref p,.ref nl]->H p=some (.ins t.gV dx [])->Rd H nl (.lst (ns.map V.int))->ns.length<=5000000->(∀ H',bG [p] H H'->kZ t H' p dx nl ns 0->Q .eX H')->uA t K vs H Q E
theorem Fq{t:bH}(T:b7 K mg t):bL P w K mg base hJ 1 t.aS.f t.aS.fd ["self","numbers"] (uA t K):=by
 refine T.aS.F.ok Ff (fun vs H Q E h=>?_) (fun cdv A outer s H vs Q E hr h=>?_)
 ·obtain ⟨p,dx,nl,ns,rfl,_⟩:=h
  rfl
 ·obtain ⟨p,dx,nl,ns,rfl,hp,hN,hl,q⟩:=h
  refine ⟨_,(aB (bT T.aS.cl T.dE (pv 0) (pv 1)) (aE (bT T.aS.cl T.b8 (pv 0) aG))),?_⟩
  refine ⟨_,rfl,_,rfl,p,dx,_,rfl,hp,sm 0,_,rfl,p,dx,_,rfl,aD,sm 1,?_⟩
  rw [bU]
  have n:nl≠p:=by
   intro z
   rcases hN with h|⟨ob,h⟩
   ·rw [z,hp] at h;cases h
   ·rw [z,hp] at h;cases h
  refine q _ (bG.chg (by simp)) ⟨aD,hN.imp (fun e=>by rw [aJ n];exact e) fun ⟨ob,e⟩=>⟨ob,by rw [aJ n];exact e⟩,hl,Nat.zero_le _⟩
inductive vX(t:bH)(K:Frag)(vs:List V)(H:Hp)(Q:VK)(E:XK):Prop
 | mk:∀ (a dx nl:Addr) (ns:List Int) (k:Nat) (lo hi:Int),vs=[.ref a,.int lo,.int hi]->(yX t H a dx nl ns k (bZ lo hi) E fun x H'=>Q (.int x) H')->vX t K vs H Q E
theorem sG(lo hi x:Int)(r:List Int):bZ lo hi (x::r)=if lo<=x/\x<=hi then some (x,r) else none:=rfl
theorem Mv{ns:List Int}{k:Nat}(h:k<ns.length):ns.drop k=ns.getD k 0::ns.drop (k+1):=by
 rw [List.drop_eq_getElem_cons h,getD_eq_getElem?_getD,getElem?_eq_getElem h];rfl
theorem b4{t:bH}(T:b7 K mg t):bL P w K mg base (nG P w) 1 t.bA.f t.bA.fd ["self","lowest","highest"] (vX t K):=by
 refine T.bA.F.C_ vE (fun vs H Q E h=>?_) (fun cdv A outer s H vs Q E hr h=>?_)
 ·obtain ⟨a,dx,nl,ns,k,lo,hi,rfl,_⟩:=h
  rfl
 ·obtain ⟨a,dx,nl,ns,k,lo,hi,rfl,R,qw,q⟩:=h
  refine ⟨_,(aB (a_ (tc Mz (aZ T.aS.cl T.b8 (pv 0)) (ln T.f_ (aZ T.aS.cl T.dE (pv 0)))) (aE (dQ eG hr.hd rfl T.cC)) aR) (aB (sv 3 vE.nd (ix (aZ T.aS.cl T.dE (pv 0)) (aZ T.aS.cl T.b8 (pv 0)))) (aB (a_ (PW.pt (kX (tc nA (pv 3) (pv 1)) (jD (tc sP (pv 3) (pv 2))))) (aE (dQ eG hr.hd rfl T.cC)) aR) (aB (gL T.aS.cl T.b8 (pv 0) aG m9) (aE (aM (pv 3))))))),?_⟩
  have hq:cT K H nl (ns.map V.int):=.inl R.nums
  refine ⟨_,rfl,a,dx,_,_,rfl,R.obj,rfl,_,rfl,a,dx,_,_,rfl,R.obj,rfl,nl,_,rfl,.inl hq,_,_,rfl,rfl,_,rfl,aQ (fun z=>?_) fun z=>?_⟩
  ·have hk:ns.length<=k:=by
    have:=of_decide_eq_true z
    rw [length_map] at this;omega
   exact qw (by rw [List.drop_of_length_le hk];rfl) H bG.refl
  have hk:k<ns.length:=by
   have:=of_decide_eq_false z
   rw [length_map] at this;omega
  rw [Mv hk] at qw q
  refine ⟨_,rfl,a,dx,_,_,rfl,R.obj,rfl,_,rfl,a,dx,_,_,rfl,R.obj,rfl,nl,_,_,_,rfl,rfl,hq,b6 (GL hk),?_⟩
  generalize ns.getD k 0=x at qw q
  refine ⟨_,rfl,_,rfl,_,_,rfl,rfl,_,rfl,aQ (fun z2=>oB ?_) fun z2=>⟨_,rfl,_,rfl,_,_,rfl,rfl,_,rfl,aQ (fun z3=>?_) fun z3=>?_⟩⟩
  ·have:=of_decide_eq_true z2
   exact qw (by rw [sG,if_neg (by omega)]) H bG.refl
  ·have:=of_decide_eq_true z3
   exact qw (by rw [sG,if_neg (by omega)]) H bG.refl
  have h2:=of_decide_eq_false z2
  have h3:=of_decide_eq_false z3
  refine ⟨_,rfl,a,dx,_,_,rfl,R.obj,rfl,_,_,rfl,rfl,dx,_,R.obj,sm 2,_,rfl,?_⟩
  refine q x (k+1) (by rw [sG,if_pos ⟨by omega,by omega⟩]) (by omega) _ (bG.chg (by simp)) ?_
  exact R.move (k':=k+1) (by omega)
def gR:Nat->List Int->Option (List Int×List Int)
 | 0,r=>some ([],r)
 | n+1,r=>(c9 r).bind fun x=>(gR n x.2).map fun y=>(x.1::y.1,y.2)
def rE:Nat->List Int->Option (List (Option Int)×List Int)
 | 0,r=>some ([],r)
 | n+1,r=>(lD r).bind fun x=>(rE n x.2).map fun y=>(x.1::y.1,y.2)
theorem wJ(r:List Int):gR 1 r=(c9 r).map fun x=>([x.1],x.2):=by
 unfold gR;cases c9 r<;>rfl
theorem Hj(r:List Int):gR 2 r=(c9 r).bind fun x=>(c9 x.2).map fun y=>([x.1,y.1],y.2):=by
 show (c9 r).bind _=_
 cases h:c9 r with
 | none=>rfl
 | some x=>show (gR 1 x.2).map _=(c9 x.2).map _;rw [wJ];cases c9 x.2<;>rfl
theorem CU(r:List Int):gR 3 r=(c9 r).bind fun x=>(c9 x.2).bind fun y=>(c9 y.2).map fun z=>([x.1,y.1,z.1],z.2):=by
 show (c9 r).bind _=_
 cases h:c9 r with
 | none=>rfl
 | some x=>show (gR 2 x.2).map _=(c9 x.2).bind _;rw [Hj];cases c9 x.2 with
  | none=>rfl
  | some y=>show Option.map _ (Option.map _ (c9 y.2))=Option.map _ (c9 y.2);cases c9 y.2<;>rfl
inductive kK(t:bH)(K:Frag)(vs:List V)(H:Hp)(Q:VK)(E:XK):Prop
 | mk:∀ (a dx nl:Addr) (ns:List Int) (k c:Nat),vs=[.ref a,.int (c:Int)]->c<=100->(yX t H a dx nl ns k (gR c) E fun _ H'=>Q .eX H')->kK t K vs H Q E
theorem cU{t:bH}(T:b7 K mg t):bL P w K mg base (nG P w) 2 t.bB.f t.bB.fd ["self","count"] (kK t K):=by
 refine T.bB.F.C_ kT (fun vs H Q E h=>?_) (fun cdv A outer s H vs Q E hr h=>?_)
 ·obtain ⟨a,dx,nl,ns,k,c,rfl,_⟩:=h
  rfl
 ·obtain ⟨a,dx,nl,ns,k,c,rfl,hc,R,qw,q⟩:=h
  refine ⟨_,(aE (p7 EU rfl (wN rfl T.D7 (aA (pv 1) aF)) (i8 (i:=2) kT.nd rfl (Or.inl rfl)) (aE (bJ (cP (pv 0) T.aS.cl T.bA.m (b4 T) hr.m T.bA.b .nil aX (aA (o7 jV (aW T.qQ)) (aA (aW T.qQ) aF))))))),?_⟩
  refine ⟨_,rfl,_,rfl,by omega,by omega,?_⟩
  rw [Int.toNat_natCast]
  refine wM (fun i σ H'=>i<=c/\∃ (ki:Nat) (v:Option V) (pre:List Int),σ=[some (.ref a),some (.int (c:Int)),v]/\bG [a] H H'/\kZ t H' a dx nl ns ki/\k<=ki/\gR c (ns.drop k)=(gR (c - i) (ns.drop ki)).map fun y=>(pre++y.1,y.2))
   ⟨Nat.zero_le _,k,none,[],rfl,bG.refl,R,Nat.le_refl _,by rw [Nat.sub_zero];cases gR c (ns.drop k)<;>rfl⟩ ?_ ?_
  ·rintro i σ H2 hi ⟨_,ki,v,pre,rfl,u2,R2,hk2,e2⟩
   have ec:c - i=(c - (i+1))+1:=by omega
   rw [ec] at e2
   refine ⟨_,rfl,a,dx,_,rfl,R2.obj,rfl,_,rfl,a,dx,nl,ns,ki,_,_,rfl,R2,fun hn=>?_,fun x k' hx hk' H3 u3 R3=>?_⟩
   ·refine (qw ?_).up u2
    rw [e2]
    have:gR (c - (i+1)+1) (ns.drop ki)=none:=by
     show (c9 (ns.drop ki)).bind _=none
     rw [show c9 (ns.drop ki)=none from hn];rfl
    rw [this];rfl
   ·refine ⟨by omega,k',_,pre++[x],rfl,u2.trans u3,R3,by omega,?_⟩
    rw [e2]
    have:gR (c - (i+1)+1) (ns.drop ki)=(gR (c - (i+1)) (ns.drop k')).map fun y=>(x::y.1,y.2):=by
     show (c9 (ns.drop ki)).bind _=_
     rw [show c9 (ns.drop ki)=some (x,ns.drop k') from hx];rfl
    rw [this,Option.map_map]
    cases gR (c - (i+1)) (ns.drop k') with
    | none=>rfl
    | some y=>show some _=some _;simp
  ·rintro σ H2 ⟨_,ki,v,pre,rfl,u2,R2,hk2,e2⟩
   rw [Nat.sub_self] at e2
   exact q _ ki (by rw [e2];rfl) hk2 H2 u2 R2
theorem M0(ns:List Int)(k:Nat):jB (ns.map V.int) (some (k:Int)) (some ((k:Int)+5))=((ns.drop k).take 5).map V.int:=by
 unfold jB
 rw [show (k:Int)+5=((k+5:Nat):Int) from rfl,HT.pZ,HT.pZ,length_map]
 rw [<-List.map_drop,<-List.map_take]
 congr 1
 rcases Nat.le_total k ns.length with h|h
 ·rw [Nat.min_eq_left h]
  rcases Nat.le_total (k+5) ns.length with h2|h2
  ·rw [Nat.min_eq_left h2,Nat.add_sub_cancel_left]
  ·rw [Nat.min_eq_right h2,List.take_of_length_le (by rw [length_drop];omega),List.take_of_length_le (by rw [length_drop];omega)]
 ·rw [Nat.min_eq_right h,List.drop_of_length_le h,List.drop_of_length_le (Nat.le_refl _)];simp
theorem wZ(r:List Int):oE r=if lW (r.take 5)=true then some (⟨r.getD 0 0,r.getD 1 0,(r.getD 2 0).toNat,r.getD 3 0,(r.getD 4 0).toNat⟩,r.drop 5) else none:=by
 match r with
 | a::b::c::d::e::u =>
  show (if (isLen a=true/\isLen b=true/\isLen d=true)/\(0<=c/\c<=3)/\(0<=e/\e<=3) then _ else _)=if ((isLen a&&(isLen b&&isLen d))&&((decide (0<=c)&&decide (c<=3))&&(decide (0<=e)&&decide (e<=3))))=true then _ else _
  simp only [Bool.and_eq_true,decide_eq_true_eq]
  rfl
 | []=>rfl
 | [_]=>rfl
 | [_,_]=>rfl
 | [_,_,_]=>rfl
 | [_,_,_,_]=>rfl
theorem JC{r:List Int}(h:lW (r.take 5)=true):5<=r.length:=by
 refine Nat.le_of_not_lt fun hl=>?_
 rw [wD (by rw [length_take];omega)] at h;cases h
inductive nB(t:bH)(K:Frag)(vs:List V)(H:Hp)(Q:VK)(E:XK):Prop
 | mk:∀ (a dx nl:Addr) (ns:List Int) (k:Nat),vs=[.ref a]->(yX t H a dx nl ns k oE E fun _ H'=>Q .eX H')->nB t K vs H Q E
theorem jA{t:bH}(T:b7 K mg t):bL P w K mg base (nG P w) 3 t.b_.f t.b_.fd ["self"] (nB t K):=by
 refine T.b_.F.C_ xQ (fun vs H Q E h=>?_) (fun cdv A outer s H vs Q E hr h=>?_)
 ·obtain ⟨a,dx,nl,ns,k,rfl,_⟩:=h
  rfl
 ·obtain ⟨a,dx,nl,ns,k,rfl,R,qw,q⟩:=h
  refine ⟨_,(aB (a_ (jC (c2 (cf (oR T) T.gQ hr aV (aA (eF gB (aZ T.aS.cl T.dE (pv 0)) (dM (aZ T.aS.cl T.b8 (pv 0))) (dM (bW iK (aZ T.aS.cl T.b8 (pv 0)) aG))) aF)))) (aE (dQ eG hr.hd rfl T.cC)) aR) (aE (gL T.aS.cl T.b8 (pv 0) aG m9))),?_⟩
  have hq:cT K H nl (ns.map V.int):=.inl R.nums
  refine ⟨_,rfl,a,dx,_,_,rfl,R.obj,rfl,_,rfl,a,dx,_,_,rfl,R.obj,rfl,_,rfl,_,rfl,a,dx,_,_,rfl,R.obj,rfl,_,_,rfl,rfl,_,rfl,nl,_,rfl,hq,fun l2 n2=>?_⟩
  rw [M0]
  generalize e2:a6 H l2 _=H2
  have s2:aK H H2:=e2▸aK.new n2
  have f2:H2 l2=some _:=e2▸aD
  have R2:=R.same s2
  refine ⟨l2,_,rfl,cT.of f2,_,rfl,aQ (fun z=>?_) fun z=>?_⟩
  ·refine qw ?_ H2 s2.fC
   rw [wZ,if_neg (by simpa using z)]
  ·have z:lW ((ns.drop k).take 5)=true:=by simpa using z
   have h5:=JC z
   rw [length_drop] at h5
   refine ⟨_,rfl,a,dx,_,_,rfl,R2.obj,rfl,_,_,rfl,rfl,dx,_,R2.obj,sm 2,?_⟩
   refine q _ (k+5) (by rw [wZ,if_pos z,List.drop_drop]) (by omega) _ (s2.fC.trans (bG.chg (by simp))) ?_
   exact R2.move (k':=k+5) (by omega)
inductive BK(t:bH)(K:Frag)(vs:List V)(H:Hp)(Q:VK)(E:XK):Prop
 | mk:∀ (a dx nl:Addr) (ns:List Int) (k:Nat),vs=[.ref a]->(yX t H a dx nl ns k (rE 3) E fun _ H'=>Q .eX H')->BK t K vs H Q E
theorem P2(r:List Int):lD r=(bZ 0 1 r).bind fun x=>if x.1=1 then (gR 1 x.2).map fun y=>(y.1.head?,y.2) else some (none,x.2):=by
 unfold lD
 cases bZ 0 1 r with
 | none=>rfl
 | some x =>
  show (if x.1=1 then _ else _)=if x.1=1 then _ else _
  split
  ·rw [wJ,Option.map_map];rfl
  ·rfl
theorem IM{t:bH}(T:b7 K mg t):bL P w K mg base (nG P w) 3 t.nZ.f t.nZ.fd ["reader"] (BK t K):=by
 refine T.nZ.F.C_ BZ (fun vs H Q E h=>?_) (fun cdv A outer s H vs Q E hr h=>?_)
 ·obtain ⟨a,dx,nl,ns,k,rfl,_⟩:=h
  rfl
 ·obtain ⟨a,dx,nl,ns,k,rfl,R,qw,q⟩:=h
  refine ⟨_,(aE (p7 EU rfl (wN rfl T.D7 (aA aG aF)) (i8 (i:=1) BZ.nd rfl (Or.inl rfl)) (aE (a_ (tc bY (cP (pv 0) T.aS.cl T.bA.m (b4 T) hr.m T.bA.b .nil aX (aA aG (aA aG aF))) aG) (aE (bJ (cP (pv 0) T.aS.cl T.bB.m (cU T) hr.m T.bB.b .nil aX (aA aG aF)))) aR)))),?_⟩
  refine ⟨_,rfl,by decide,by decide,?_⟩
  refine wM (n:=3) (fun i σ H'=>i<=3/\∃ (ki:Nat) (v:Option V) (pre:List (Option Int)),σ=[some (.ref a),v]/\bG [a] H H'/\kZ t H' a dx nl ns ki/\k<=ki/\rE 3 (ns.drop k)=(rE (3 - i) (ns.drop ki)).map fun y=>(pre++y.1,y.2))
   ⟨Nat.zero_le _,k,none,[],rfl,bG.refl,R,Nat.le_refl _,by rw [Nat.sub_zero];cases rE 3 (ns.drop k)<;>rfl⟩ ?_ ?_
  ·rintro i σ H2 hi ⟨_,ki,v,pre,rfl,u2,R2,hk2,e2⟩
   have ec:3 - i=(3 - (i+1))+1:=by omega
   rw [ec] at e2
   have bad:lD (ns.drop ki)=none->rE 3 (ns.drop k)=none:=by
    intro h
    rw [e2]
    have:rE (3 - (i+1)+1) (ns.drop ki)=none:=by
     show (lD (ns.drop ki)).bind _=none
     rw [h];rfl
    rw [this];rfl
   have good:∀ x k',lD (ns.drop ki)=some (x,ns.drop k')->rE 3 (ns.drop k)=(rE (3 - (i+1)) (ns.drop k')).map fun y=>(pre++[x]++y.1,y.2):=by
    intro x k' h
    rw [e2]
    have:rE (3 - (i+1)+1) (ns.drop ki)=(rE (3 - (i+1)) (ns.drop k')).map fun y=>(x::y.1,y.2):=by
     show (lD (ns.drop ki)).bind _=_
     rw [h];rfl
    rw [this,Option.map_map]
    cases rE (3 - (i+1)) (ns.drop k') with
    | none=>rfl
    | some y=>show some _=some _;simp
   rw [P2] at bad good
   refine ⟨_,rfl,a,dx,_,rfl,R2.obj,rfl,a,dx,nl,ns,ki,_,_,rfl,R2,fun hn=>?_,fun x k' hx hk' H3 u3 R3=>?_⟩
   ·refine (qw (bad ?_)).up u2
    rw [hn];rfl
   ·rw [hx] at bad good
    refine ⟨rfl,_,rfl,?_⟩
    rw [a8]
    refine aQ (fun z=>?_) fun z=>?_
    ·have z:=of_decide_eq_true z
     simp only [Option.bind_some,if_pos z] at bad good
     refine ⟨_,rfl,a,dx,_,rfl,R3.obj,rfl,a,dx,nl,ns,k',1,rfl,by decide,R3,fun hn=>?_,fun y k2 hy hk2' H4 u4 R4=>?_⟩
     ·refine (qw (bad ?_)).up (u2.trans u3)
      rw [hn];rfl
     ·refine ⟨by omega,k2,_,_,rfl,(u2.trans u3).trans u4,R4,by omega,good y.head? k2 ?_⟩
      rw [hy];rfl
    ·have z:=of_decide_eq_false z
     simp only [Option.bind_some,if_neg z] at bad good
     exact ⟨by omega,k',_,_,rfl,u2.trans u3,R3,by omega,good none k' rfl⟩
  ·rintro σ H2 ⟨_,ki,v,pre,rfl,u2,R2,hk2,e2⟩
   rw [Nat.sub_self] at e2
   exact q _ ki (by rw [e2];rfl) hk2 H2 u2 R2
inductive pO(t:bH)(K:Frag)(vs:List V)(H:Hp)(Q:VK)(E:XK):Prop
 | mk:∀ (a dx nl:Addr) (ns:List Int) (k:Nat),vs=[.ref a]->(yX t H a dx nl ns k NI E fun _ H'=>Q .eX H')->pO t K vs H Q E
theorem Qo(r:List Int):NI r=(bZ 0 1 r).bind fun c=>(gR 3 c.2).bind fun l=>(bZ 0 3 l.2).bind fun o=>(bZ (1 - WIDE) (WIDE - 1) o.2).bind fun p=>(bZ 1 (WIDE - 1) p.2).bind fun q=>(gR 1 q.2).map fun s =>
 (⟨c.1,l.1.getD 0 0,l.1.getD 1 0,l.1.getD 2 0,o.1,p.1,q.1,s.1.getD 0 0⟩,s.2):=by
 unfold NI
 cases bZ 0 1 r with
 | none=>rfl
 | some c =>
  show (c9 c.2).bind _=(gR 3 c.2).bind _
  rw [CU]
  cases c9 c.2 with
  | none=>rfl
  | some x =>
   show (c9 x.2).bind _=((c9 x.2).bind _).bind _
   cases c9 x.2 with
   | none=>rfl
   | some y =>
    show (c9 y.2).bind _=((c9 y.2).map _).bind _
    cases c9 y.2 with
    | none=>rfl
    | some z =>
     show (bZ 0 3 z.2).bind _=(bZ 0 3 z.2).bind _
     cases bZ 0 3 z.2 with
     | none=>rfl
     | some o =>
      show (bZ (1 - WIDE) (WIDE - 1) o.2).bind _=(bZ (1 - WIDE) (WIDE - 1) o.2).bind _
      cases bZ (1 - WIDE) (WIDE - 1) o.2 with
      | none=>rfl
      | some p =>
       show (bZ 1 (WIDE - 1) p.2).bind _=(bZ 1 (WIDE - 1) p.2).bind _
       cases bZ 1 (WIDE - 1) p.2 with
       | none=>rfl
       | some q =>
        show (c9 q.2).map _=(gR 1 q.2).map _
        rw [wJ,Option.map_map];rfl
theorem B0{t:bH}(T:b7 K mg t):bL P w K mg base (nG P w) 3 t.gF.f t.gF.fd ["reader"] (pO t K):=by
 refine T.gF.F.C_ Av (fun vs H Q E h=>?_) (fun cdv A outer s H vs Q E hr h=>?_)
 ·obtain ⟨a,dx,nl,ns,k,rfl,_⟩:=h
  rfl
 ·obtain ⟨a,dx,nl,ns,k,rfl,R,qw,q⟩:=h
  refine ⟨_,(aB (bJ (cP (pv 0) T.aS.cl T.bA.m (b4 T) hr.m T.bA.b .nil aX (aA aG (aA aG aF)))) (aB (bJ (cP (pv 0) T.aS.cl T.bB.m (cU T) hr.m T.bB.b .nil aX (aA aG aF))) (aB (bJ (cP (pv 0) T.aS.cl T.bA.m (b4 T) hr.m T.bA.b .nil aX (aA aG (aA (aW T.tO) aF)))) (aB (bJ (cP (pv 0) T.aS.cl T.bA.m (b4 T) hr.m T.bA.b .nil aX (aA (bW jW aG (aW T.qD)) (aA (bW jW (aW T.qD) aG) aF)))) (aB (bJ (cP (pv 0) T.aS.cl T.bA.m (b4 T) hr.m T.bA.b .nil aX (aA aG (aA (bW jW (aW T.qD) aG) aF)))) (aE (bJ (cP (pv 0) T.aS.cl T.bB.m (cU T) hr.m T.bB.b .nil aX (aA aG aF))))))))),?_⟩
  rw [Qo] at qw q
  refine ⟨_,rfl,a,dx,_,rfl,R.obj,rfl,a,dx,nl,ns,k,_,_,rfl,R,fun hn=>qw (by rw [hn];rfl),fun x1 k1 h1 l1 H1 u1 R1=>?_⟩
  rw [h1] at qw q
  simp only [Option.bind_some] at qw q
  refine ⟨_,rfl,a,dx,_,rfl,R1.obj,rfl,a,dx,nl,ns,k1,3,rfl,by decide,R1,fun hn=>(qw (by rw [hn];rfl)).up u1,fun x2 k2 h2 l2 H2 u2 R2=>?_⟩
  rw [h2] at qw q
  simp only [Option.bind_some] at qw q
  have u2:=u1.trans u2
  refine ⟨_,rfl,a,dx,_,rfl,R2.obj,rfl,a,dx,nl,ns,k2,_,_,rfl,R2,fun hn=>(qw (by rw [hn];rfl)).up u2,fun x3 k3 h3 l3 H3 u3 R3=>?_⟩
  rw [h3] at qw q
  simp only [Option.bind_some] at qw q
  have u3:=u2.trans u3
  refine ⟨_,rfl,a,dx,_,rfl,R3.obj,rfl,_,_,rfl,rfl,_,_,rfl,rfl,a,dx,nl,ns,k3,_,_,rfl,R3,fun hn=>(qw (by rw [show bZ (1 - WIDE) (WIDE - 1) (ns.drop k3)=none from hn];rfl)).up u3,fun x4 k4 h4 l4 H4 u4 R4=>?_⟩
  rw [show bZ (1 - WIDE) (WIDE - 1) (ns.drop k3)=some (x4,ns.drop k4) from h4] at qw q
  simp only [Option.bind_some] at qw q
  have u4:=u3.trans u4
  refine ⟨_,rfl,a,dx,_,rfl,R4.obj,rfl,_,_,rfl,rfl,a,dx,nl,ns,k4,_,_,rfl,R4,fun hn=>(qw (by rw [show bZ 1 (WIDE - 1) (ns.drop k4)=none from hn];rfl)).up u4,fun x5 k5 h5 l5 H5 u5 R5=>?_⟩
  rw [show bZ 1 (WIDE - 1) (ns.drop k4)=some (x5,ns.drop k5) from h5] at qw q
  simp only [Option.bind_some] at qw q
  have u5:=u4.trans u5
  refine ⟨_,rfl,a,dx,_,rfl,R5.obj,rfl,a,dx,nl,ns,k5,1,rfl,by decide,R5,fun hn=>(qw (by rw [hn];rfl)).up u5,fun x6 k6 h6 l6 H6 u6 R6=>?_⟩
  exact q _ k6 (by rw [h6];rfl) (by omega) H6 (u5.trans u6) R6
theorem Kb(r:List Int):((lD r).bind fun w=>(lD w.2).bind fun h=>(lD h.2).map fun d=>(Thing.rule w.1 h.1 d.1,d.2))=(rE 3 r).map fun y=>(Thing.rule (y.1.getD 0 none) (y.1.getD 1 none) (y.1.getD 2 none),y.2):=by
 show _=Option.map _ ((lD r).bind _)
 cases lD r with
 | none=>rfl
 | some x =>
  show (lD x.2).bind _=Option.map _ (Option.map _ ((lD x.2).bind _))
  cases lD x.2 with
  | none=>rfl
  | some y =>
   show (lD y.2).map _=Option.map _ (Option.map _ (Option.map _ ((lD y.2).bind _)))
   cases lD y.2 with
   | none=>rfl
   | some z=>rfl
theorem NY(r:List Int):((bZ 0 NAMES r).bind fun n=>(c9 n.2).bind fun w=>(c9 w.2).bind fun h=>(c9 h.2).map fun d=>(Thing.glyph n.1.toNat w.1 h.1 d.1,d.2))=(bZ 0 NAMES r).bind fun n=>(gR 3 n.2).map fun y=>(Thing.glyph n.1.toNat (y.1.getD 0 0) (y.1.getD 1 0) (y.1.getD 2 0),y.2):=by
 cases bZ 0 NAMES r with
 | none=>rfl
 | some n =>
  show (c9 n.2).bind _=Option.map _ (gR 3 n.2)
  rw [CU]
  cases c9 n.2 with
  | none=>rfl
  | some x =>
   show (c9 x.2).bind _=Option.map _ ((c9 x.2).bind _)
   cases c9 x.2 with
   | none=>rfl
   | some y =>
    show (c9 y.2).map _=Option.map _ (Option.map _ (c9 y.2))
    rw [Option.map_map];rfl
inductive yQ(t:bH)(K:Frag)(vs:List V)(H:Hp)(Q:VK)(E:XK):Prop
 | mk:∀ (a dx nl:Addr) (ns:List Int) (k:Nat) (kd:Int),vs=[.ref a,.int kd]->(yX t H a dx nl ns k (iR kd) E fun _ H'=>Q .eX H')->yQ t K vs H Q E
theorem zN{t:bH}(T:b7 K mg t):bL P w K mg base (nG P w) 4 t.jR.f t.jR.fd ["reader","kind"] (yQ t K):=by
 refine T.jR.F.C_ F5 (fun vs H Q E h=>?_) (fun cdv A outer s H vs Q E hr h=>?_)
 ·obtain ⟨a,dx,nl,ns,k,kd,rfl,_⟩:=h
  rfl
 ·obtain ⟨a,dx,nl,ns,k,kd,rfl,R,qw,q⟩:=h
  refine ⟨_,(aE (a_ (tc bY (pv 1) (aW T.Jk)) (aB (bJ (cP (pv 0) T.aS.cl T.bA.m (b4 T) hr.m T.bA.b .nil aX (aA aG (aA (aW T.uW) aF)))) (aE (bJ (cP (pv 0) T.aS.cl T.bB.m (cU T) hr.m T.bB.b .nil aX (aA aG aF))))) (aE (a_ (PW.pt (kX (tc bY (pv 1) (aW T.Cq)) (jD (tc bY (pv 1) (aW T.lC))))) (aE (bJ (cP (pv 0) T.aS.cl T.bB.m (cU T) hr.m T.bB.b .nil aX (aA aG aF)))) (aE (a_ (tc bY (pv 1) (aW T.Fn)) (aE (bJ (dN (pv 0) T.aS.cl T.b_.m (jA T) hr.m T.b_.b .nil aX))) (aE (a_ (tc bY (pv 1) (aW T.Ah)) (aE (bJ (cf (IM T) T.nZ hr aX (aA (pv 0) aF)))) (aE (a_ (tc bY (pv 1) (aW T.N2)) (aE (bJ (cP (pv 0) T.aS.cl T.bA.m (b4 T) hr.m T.bA.b .nil aX (aA aG (aA (aW T.mV) aF))))) (aE (bJ (cP (pv 0) T.aS.cl T.bA.m (b4 T) hr.m T.bA.b .nil aX (aA aG (aA (aW T.uW) aF))))))))))))))),?_⟩
  unfold iR at qw q
  refine ⟨_,rfl,rfl,_,rfl,aQ (fun z=>?_) fun z=>?_⟩
  ·rw [a8,decide_eq_true_eq] at z
   rw [if_pos z,NY] at qw q
   refine ⟨_,rfl,a,dx,_,rfl,R.obj,rfl,a,dx,nl,ns,k,_,_,rfl,R,fun hn=>qw (by rw [show bZ 0 NAMES (ns.drop k)=none from hn];rfl),fun x1 k1 h1 l1 H1 u1 R1=>?_⟩
   rw [show bZ 0 NAMES (ns.drop k)=some (x1,ns.drop k1) from h1] at qw q
   simp only [Option.bind_some] at qw q
   refine ⟨_,rfl,a,dx,_,rfl,R1.obj,rfl,a,dx,nl,ns,k1,3,rfl,by decide,R1,fun hn=>(qw (by rw [hn];rfl)).up u1,fun x2 k2 h2 l2 H2 u2 R2=>?_⟩
   exact q _ k2 (by rw [h2];rfl) (by omega) H2 (u1.trans u2) R2
  rw [a8,decide_eq_false_iff_not] at z
  rw [if_neg z] at qw q
  have one:∀ (H1:Hp),(∀ f:Int->Thing,(∀ r,(if kd=1 then (c9 r).map fun x=>(Thing.kern x.1,x.2) else if kd=2 then (oE r).map fun g=>(Thing.glue g.1,g.2) else if kd=4 then (c9 r).map fun x=>(Thing.penalty x.1,x.2) else if kd=5 then (lD r).bind fun w=>(lD w.2).bind fun h=>(lD h.2).map fun d=>(Thing.rule w.1 h.1 d.1,d.2) else if kd=9 then (bZ 0 CLASSES r).map fun c=>(Thing.mark c.1.toNat,c.2) else (bZ 0 NAMES r).map fun c=>(Thing.anchor c.1.toNat,c.2))=(c9 r).map fun x=>(f x.1,x.2)) →
   ((gR 1 (ns.drop k)=none->FI t H a E)/\∀ x k',gR 1 (ns.drop k)=some (x,ns.drop k')->k<=k'->∀ H',bG [a] H H'->kZ t H' a dx nl ns k'->Q .eX H')):=by
   intro _ f hf
   rw [hf] at qw q
   rw [wJ]
   refine ⟨fun hn=>qw ?_,fun x k' hx hk H' u R'=>?_⟩
   ·cases e:c9 (ns.drop k) with
    | none=>rfl
    | some y=>rw [e] at hn;cases hn
   ·cases e:c9 (ns.drop k) with
    | none=>rw [e] at hx;cases hx
    | some y =>
     rw [e] at hx
     have:y.2=ns.drop k':=(Prod.mk.inj (Option.some.inj hx)).2
     exact q (f y.1) k' (by rw [e];show some (f y.1,y.2)=_;rw [this]) hk H' u R'
  refine ⟨_,rfl,rfl,_,rfl,aQ (fun z1=>oB ?_) fun z1=>⟨_,rfl,rfl,_,rfl,aQ (fun z4=>?_) fun z4=>?_⟩⟩
  ·rw [a8,decide_eq_true_eq] at z1
   obtain ⟨o1,o2⟩:=one H Thing.kern (fun r=>by rw [if_pos z1])
   exact ⟨_,rfl,a,dx,_,rfl,R.obj,rfl,a,dx,nl,ns,k,1,rfl,by decide,R,o1,o2⟩
  ·rw [a8,decide_eq_true_eq] at z4
   obtain ⟨o1,o2⟩:=one H Thing.penalty (fun r=>by rw [if_neg (by omega),if_neg (by omega),if_pos z4])
   exact ⟨_,rfl,a,dx,_,rfl,R.obj,rfl,a,dx,nl,ns,k,1,rfl,by decide,R,o1,o2⟩
  rw [a8,decide_eq_false_iff_not] at z1 z4
  rw [if_neg z1] at qw q
  refine ⟨_,rfl,rfl,_,rfl,aQ (fun z2=>?_) fun z2=>?_⟩
  ·rw [a8,decide_eq_true_eq] at z2
   rw [if_pos z2] at qw q
   refine ⟨_,rfl,a,dx,_,rfl,R.obj,rfl,a,dx,nl,ns,k,rfl,R,fun hn=>qw (by rw [hn];rfl),fun x k' hx hk H' u R'=>?_⟩
   exact q _ k' (by rw [hx];rfl) hk H' u R'
  rw [a8,decide_eq_false_iff_not] at z2
  rw [if_neg z2,if_neg z4] at qw q
  refine ⟨_,rfl,rfl,_,rfl,aQ (fun z5=>?_) fun z5=>?_⟩
  ·rw [a8,decide_eq_true_eq] at z5
   rw [if_pos z5,Kb] at qw q
   refine ⟨_,rfl,a,dx,nl,ns,k,rfl,R,fun hn=>qw (by rw [hn];rfl),fun x k' hx hk H' u R'=>?_⟩
   exact q _ k' (by rw [hx];rfl) hk H' u R'
  rw [a8,decide_eq_false_iff_not] at z5
  rw [if_neg z5] at qw q
  refine ⟨_,rfl,rfl,_,rfl,aQ (fun z9=>?_) fun z9=>?_⟩
  ·rw [a8,decide_eq_true_eq] at z9
   rw [if_pos z9] at qw q
   refine ⟨_,rfl,a,dx,_,rfl,R.obj,rfl,a,dx,nl,ns,k,_,_,rfl,R,fun hn=>qw (by rw [show bZ 0 CLASSES (ns.drop k)=none from hn];rfl),fun x k' hx hk H' u R'=>?_⟩
   exact q _ k' (by rw [show bZ 0 CLASSES (ns.drop k)=some (x,ns.drop k') from hx];rfl) hk H' u R'
  ·rw [a8,decide_eq_false_iff_not] at z9
   rw [if_neg z9] at qw q
   refine ⟨_,rfl,a,dx,_,rfl,R.obj,rfl,a,dx,nl,ns,k,_,_,rfl,R,fun hn=>qw (by rw [show bZ 0 NAMES (ns.drop k)=none from hn];rfl),fun x k' hx hk H' u R'=>?_⟩
   exact q _ k' (by rw [show bZ 0 NAMES (ns.drop k)=some (x,ns.drop k') from hx];rfl) hk H' u R'
theorem kZ.fix{t:bH}(T:b7 K mg t){H H':Hp}{a dx nl:Addr}{ns:List Int}{k:Nat}(R:kZ t H a dx nl ns k)(u:bG [a] H H'):iV t H H':=u.fix fun b hb o e=>by
 simp at hb;subst hb;rw [R.obj] at e;cases e;exact T.Nk
theorem bG.free{H H1:Hp}{a b:Addr}{o:HO}(u:bG [a] H H1)(ha:H1 a=some o)(n:H1 b=none):H b=none:=by
 cases e:H b with
 | none=>rfl
 | some x =>
  by_cases z:b=a
  ·rw [z,ha] at n;cases n
  ·rw [u b x e (by simpa using z)] at n;cases n
theorem CV{f:List Int->Option (Thing×List Int)}:∀ {n:Nat} {r:List Int} {l:List Thing} {u:List Int},many f n r=some (l,u)->l.length=n
 | 0,r,l,u,h=>by simp only [many,Option.some.injEq,Prod.mk.injEq] at h;rw [<-h.1];rfl
 | n+1,r,l,u,h=>by
  simp only [many] at h
  cases e:f r with
  | none=>rw [e] at h;cases h
  | some x =>
   rw [e] at h
   obtain ⟨y,hy,h⟩:=gH.mp h
   rw [<-(Prod.mk.inj h).1,length_cons,CV hy]
theorem tU(f:List Int->Option (Thing×List Int))(n:Int)(r:List Int):listIn f (n::r)=if 0<=n then many f n.toNat r else none:=rfl
theorem uG{n:Nat}{lo:Bool}{r u:List Int}{l:List Thing}(h:listIn (bO n lo) r=some (l,u)):l.length+u.length<=r.length:=by
 match r,h with
 | [],h=>cases h
 | k::r,h =>
  rw [tU] at h
  split at h
  ·have h1:=CV h
   have h2:=EY (f:=bO n lo) (fun r t u e=>FW e) _ _ _ _ h
   rw [length_cons];omega
  ·cases h
abbrev RT:List Str:=["reader","room","leaders_allowed"]
def jH(m:Nat)(t:bH)(K:Frag):Sp:=fun vs H Q E=>∃ (a dx nl:Addr) (ns:List Int) (k:Nat) (lo:Bool),vs=[.ref a,.int (m:Int),.bl lo]/\yX t H a dx nl ns k (bO m lo) E fun x H'=>∀ p,bQ t H' p x->Q (.ref p) H'
def oV(m:Nat)(t:bH)(K:Frag):Sp:=fun vs H Q E=>∃ (a dx nl:Addr) (ns:List Int) (k:Nat) (lo:Bool),vs=[.ref a,.int (m:Int),.bl lo]/\yX t H a dx nl ns k (listIn (bO m lo)) E fun l H'=>∀ la as,H la=none->H' la=some (.lst (as.map V.ref))->aL t H' as l->Q (.ref la) H'
theorem p5{t:bH}(T:b7 K mg t){m j:Nat}(hj:5<=j)(RT1:bL P w K mg base (nG P w) j t.cY.f t.cY.fd RT (jH m t K)):bL P w K mg base (nG P w) (j+1) t.c4.f t.c4.fd RT (oV m t K):=by
 refine T.c4.F.C_ oM (fun vs H Q E h=>?_) (fun cdv A outer s H vs Q E hr h=>?_)
 ·obtain ⟨a,dx,nl,ns,k,lo,rfl,_⟩:=h
  rfl
 ·obtain ⟨a,dx,nl,ns,k,lo,rfl,R,qw,q⟩:=h
  refine ⟨_,(aB (sv 3 oM.nd (cP (pv 0) T.aS.cl T.bA.m (b4 T) hr.m T.bA.b .nil aX (aA aG (aA (ln T.f_ (aZ T.aS.cl T.dE (pv 0))) aF)))) (aB (sv 4 oM.nd (bR aF)) (aB (BR EU (tc nA (ln T.f_ (pv 4)) (pv 3)) (aE (bJ (yM PySem.F.plainAttrs_list PySem.F.slot_list_append PySem.F.type_list_append j1 (pv 4) (aA (cf RT1 T.cY hr aX (aA (pv 0) (aA (pv 1) (aA (pv 2) aF)))) aF))))) (aE (aM (pv 4)))))),?_⟩
  have hq:cT K H nl (ns.map V.int):=.inl R.nums
  refine ⟨_,rfl,a,dx,_,rfl,R.obj,rfl,_,rfl,a,dx,_,_,rfl,R.obj,rfl,nl,_,rfl,.inl hq,a,dx,nl,ns,k,0,_,rfl,R,fun hn=>qw ?_,fun c k1 h1 l1 H1 u1 R1=>?_⟩
  ·rw [length_map] at hn
   cases e:ns.drop k with
   | nil=>rfl
   | cons x r =>
    rw [e,sG] at hn
    cases e2:listIn (bO m lo) (x::r) with
    | none=>rfl
    | some y =>
     exfalso
     have h0:=(L5 e2).1
     have hl:(ns.drop k).length=r.length+1:=by rw [e];rfl
     rw [length_drop] at hl
     have hx:0<=x:=by
      rw [tU] at e2
      split at e2
      ·assumption
      ·cases e2
     rw [if_pos ⟨hx,by omega⟩] at hn;cases hn
  obtain ⟨hc1,hc2,hc3⟩:=fH.mp h1
  have el:listIn (bO m lo) (ns.drop k)=many (bO m lo) c.toNat (ns.drop k1):=by
   rw [hc1,tU,if_pos hc2]
  rw [el] at qw q
  have hcl:c.toNat<=5000000:=by have:=R.len;rw [length_map] at hc3;omega
  refine ⟨Nat.zero_le _,fun la nla=>?_⟩
  have nlaH:=u1.free R1.obj nla
  generalize eH2:a6 H1 la _=H2
  have s2:aK H1 H2:=eH2▸aK.new nla
  have f2:H2 la=some (.lst []):=eH2▸aD
  refine ⟨fun m' σ H'=>∃ (ki:Nat) (as:List Addr) (l':List Thing),as.length+m'=c.toNat/\σ=[some (.ref a),some (.int (m:Int)),some (.bl lo),some (.int c),some (.ref la)]/\bG [a] H H'/\H' la=some (.lst (as.map V.ref))/\aL t H' as l'/\kZ t H' a dx nl ns ki/\k<=ki/\many (bO m lo) c.toNat (ns.drop k1)=(many (bO m lo) m' (ns.drop ki)).map fun y=>(l'++y.1,y.2),
   ⟨c.toNat,k1,[],[],by simp,rfl,u1.trans s2.fC,f2,aL.nil,R1.same s2,l1,by cases many (bO m lo) c.toNat (ns.drop k1)<;>rfl⟩,?_⟩
  rintro m' σ H3 ⟨ki,as,l',hm',rfl,u3,f3,hT,R3,hk3,e3⟩
  refine ⟨_,rfl,la,_,rfl,.inl (cT.of f3),_,rfl,_,_,rfl,rfl,_,rfl,aQ (fun z=>?_) fun z=>?_⟩
  ·have z:=of_decide_eq_true z
   rw [length_map] at z
   obtain ⟨m2,rfl⟩:∃ m2,m'=m2+1:=⟨m' - 1,by omega⟩
   refine ⟨fun σ' H'=>∃ m',m'<m2+1/\∃ (ki:Nat) (as:List Addr) (l':List Thing),as.length+m'=c.toNat/\σ'=[some (.ref a),some (.int (m:Int)),some (.bl lo),some (.int c),some (.ref la)]/\bG [a] H H'/\H' la=some (.lst (as.map V.ref))/\aL t H' as l'/\kZ t H' a dx nl ns ki/\k<=ki/\many (bO m lo) c.toNat (ns.drop k1)=(many (bO m lo) m' (ns.drop ki)).map fun y=>(l'++y.1,y.2),fun _ _ h=>h,?_⟩
   refine ⟨_,rfl,.inl ⟨rfl,_,cT.of f3⟩,_,rfl,_,rfl,_,rfl,a,dx,nl,ns,ki,lo,rfl,R3,fun hn=>(qw ?_).up u3,fun x k' hx hk' H4 u4 R4 p hp=>?_⟩
   ·rw [e3]
    have:many (bO m lo) (m2+1) (ns.drop ki)=none:=by simp only [many,hn]
    rw [this];rfl
   ·have nla2:la≠a:=cX f3 R3.obj nofun
    have f4:=u4 _ _ f3 (by simpa using nla2)
    have fx4:=R3.fix T u4
    refine ⟨la,_,_,rfl,rfl,f4,?_,m2,by omega,k',as++[p],l'++[x],?_,rfl,?_,?_,?_,?_,by omega,?_⟩
    ·rw [length_map,sizeLine_eq];omega
    ·rw [length_append,List.length_singleton];omega
    ·intro b o e n
     rw [aJ (aH e nlaH)]
     exact (u3.trans u4) b o e n
    ·rw [aD,map_append];rfl
    ·have fx5:iV t H4 (a6 H4 la (.lst (as.map V.ref++[.ref p]))):=iV.chg f4 kY
     exact ((hT.fix fx4).fix fx5).append (aL.one (hp.fix fx5))
    ·refine ⟨(aJ (Ne.symm nla2)).trans R4.obj,?_,R4.len,R4.le⟩
     have nn:nl≠la\/True:=.inr trivial
     rcases R4.nums with h|⟨ob,h⟩
     ·by_cases zz:nl=la
      ·exfalso
       rcases R.nums with h'|⟨ob,h'⟩
       ·rw [zz,nlaH] at h';cases h'
       ·rw [zz,nlaH] at h';cases h'
      ·exact .inl (by rw [aJ zz];exact h)
     ·exact .inr ⟨ob,by rw [aJ (fun zz=>by rw [zz,f4] at h;cases h)];exact h⟩
    ·rw [e3]
     have:many (bO m lo) (m2+1) (ns.drop ki)=(many (bO m lo) m2 (ns.drop k')).map fun y=>(x::y.1,y.2):=by simp only [many,hx]
     rw [this,Option.map_map]
     cases many (bO m lo) m2 (ns.drop k') with
     | none=>rfl
     | some y=>show some _=some _;simp
  ·have z:=of_decide_eq_false z
   rw [length_map] at z
   have hm0:m'=0:=by omega
   subst hm0
   refine ⟨_,rfl,q l' ki ?_ hk3 H3 u3 R3 la as nlaH f3 hT⟩
   rw [e3];show some _=some _;simp
def HG(m:Nat)(lo:Bool)(r:List Int):Option ((Glue×Int×Thing)×List Int):=if lo=true then (oE r).bind fun g=>(bZ 0 2 g.2).bind fun how=>(bO m false how.2).bind fun t=>if repeated t.1=true then some ((g.1,how.1,t.1),t.2) else none else none
theorem Nw{m:Nat}{lo:Bool}{r u:List Int}{y:Glue×Int×Thing}(h:HG m lo r=some (y,u)):repeated y.2.2=true:=by
 unfold HG at h
 split at h
 ·obtain ⟨g,_,h⟩:=nN.mp h
  obtain ⟨how,_,h⟩:=nN.mp h
  obtain ⟨x,_,h⟩:=nN.mp h
  split at h
  ·rename_i hr
   cases h;exact hr
  ·cases h
 ·cases h
theorem Ll(m:Nat)(lo:Bool)(r:List Int):hU (bO m) lo 3 r=(HG m lo r).map fun y=>(Thing.leaders y.1.1 y.1.2.1.toNat y.1.2.2,y.2):=by
 unfold hU HG
 rw [if_pos rfl]
 cases lo with
 | false=>rfl
 | true =>
  rw [if_pos rfl,if_pos rfl]
  cases oE r with
  | none=>rfl
  | some g =>
   show (bZ 0 2 g.2).bind _=Option.map _ ((bZ 0 2 g.2).bind _)
   cases bZ 0 2 g.2 with
   | none=>rfl
   | some how =>
    show (bO m false how.2).bind _=Option.map _ ((bO m false how.2).bind _)
    cases bO m false how.2 with
    | none=>rfl
    | some x =>
     show (if repeated x.1=true then _ else _)=Option.map _ (if repeated x.1=true then _ else _)
     split<;>rfl
def tI(m:Nat)(t:bH)(K:Frag):Sp:=fun vs H Q E=>∃ (a dx nl:Addr) (ns:List Int) (k:Nat) (lo:Bool),vs=[.ref a,.int (m:Int),.bl lo]/\yX t H a dx nl ns k (HG m lo) E fun y H'=>∀ p,bQ t H' p y.2.2->Q (.ref p) H'
theorem zX{t:bH}(T:b7 K mg t){m j:Nat}(hj:5<=j)(RT1:bL P w K mg base (nG P w) j t.cY.f t.cY.fd RT (jH m t K)):bL P w K mg base (nG P w) (j+1) t.fQ.f t.fQ.fd RT (tI m t K):=by
 refine T.fQ.F.C_ sZ (fun vs H Q E h=>?_) (fun cdv A outer s H vs Q E hr h=>?_)
 ·obtain ⟨a,dx,nl,ns,k,lo,rfl,_⟩:=h
  rfl
 ·obtain ⟨a,dx,nl,ns,k,lo,rfl,R,qw,q⟩:=h
  refine ⟨_,(aB (a_ (jC (c2 (pv 2))) (aE (dQ eG hr.hd rfl T.cC)) aR) (aB (bJ (dN (pv 0) T.aS.cl T.b_.m (jA T) hr.m T.b_.b .nil aX)) (aB (bJ (cP (pv 0) T.aS.cl T.bA.m (b4 T) hr.m T.bA.b .nil aX (aA aG (aA aG aF)))) (aB (sv 3 sZ.nd (cf RT1 T.cY hr aX (aA (pv 0) (aA (pv 1) (aA mG aF))))) (aB (a_ (PW.pt (FN (tc Mm (fZ T.aP.cl T.bS thK (pv 3)) (aW T.Ah)) (BM (tc Mm (fZ T.aP.cl T.bS thK (pv 3)) (aW T.yF))))) (aE (dQ eG hr.hd rfl T.cC)) aR) (aE (aM (pv 3)))))))),?_⟩
  unfold HG at qw q
  refine ⟨_,rfl,_,rfl,aQ (fun z=>?_) fun z=>?_⟩
  ·have z:lo=false:=by simpa using z
   exact qw (by rw [if_neg (by rw [z];decide)]) H bG.refl
  have z:lo=true:=by simpa using z
  rw [if_pos z] at qw q
  refine ⟨_,rfl,a,dx,_,rfl,R.obj,rfl,a,dx,nl,ns,k,rfl,R,fun hn=>qw (by rw [hn];rfl),fun x1 k1 h1 l1 H1 u1 R1=>?_⟩
  rw [h1] at qw q
  simp only [Option.bind_some] at qw q
  refine ⟨_,rfl,a,dx,_,rfl,R1.obj,rfl,a,dx,nl,ns,k1,_,_,rfl,R1,fun hn=>(qw (by rw [hn];rfl)).up u1,fun x2 k2 h2 l2 H2 u2 R2=>?_⟩
  rw [h2] at qw q
  simp only [Option.bind_some] at qw q
  have u2:=u1.trans u2
  refine ⟨_,rfl,_,rfl,a,dx,nl,ns,k2,false,rfl,R2,fun hn=>(qw (by rw [hn];rfl)).up u2,fun x k3 h3 l3 H3 u3 R3 p hp=>?_⟩
  rw [h3] at qw q
  simp only [Option.bind_some] at qw q
  have u3:=u2.trans u3
  have fin:repeated x=true->Rn (IZ 3) { nx:=fun _ H'=>Q .eX H',rt:=Q } [some (.ref a),some (.int (m:Int)),some (.bl lo),some (.ref p)] H3:=by
   intro hrep
   rw [if_pos hrep] at q
   exact ⟨_,rfl,q _ k3 rfl (by omega) H3 u3 R3 p hp⟩
  refine ⟨_,rfl,p,x,rfl,hp,rfl,_,rfl,aQ (fun z5=>⟨_,rfl,p,x,rfl,hp,rfl,_,rfl,aQ (fun z6=>?_) fun z6=>?_⟩) fun z5=>NR ?_⟩
  ·have y5:¬ kindOf x=5:=by rw [a8] at z5;simpa using z5
   have y6:¬ kindOf x=6:=by rw [a8] at z6;simpa using z6
   refine qw ?_ H3 u3
   rw [if_neg]
   cases x<;>first|exact fun h=>Bool.noConfusion h|exact absurd rfl y5|exact absurd rfl y6
  ·have y6:kindOf x=6:=by rw [a8] at z6;simpa using z6
   refine fin ?_
   cases x<;>first|rfl|cases y6
  ·have y5:kindOf x=5:=by rw [a8] at z5;simpa using z5
   refine fin ?_
   cases x<;>first|rfl|cases y5
def Within(t:bH)(H:Hp)(x:Thing)(as:List Addr):Prop:=(∀ g how y,x=.leaders g how y->repeated y=true/\∃ b,as=[b]/\bQ t H b y)/\∀ c g d k l,x=.insert c g d k l->aL t H as l
def wG(m:Nat)(t:bH)(K:Frag):Sp:=fun vs H Q E=>∃ (a dx nl:Addr) (ns:List Int) (k:Nat) (kd:Int) (lo:Bool),vs=[.ref a,.int kd,.int (m:Int),.bl lo]/\dJ kd=true/\yX t H a dx nl ns k (hU (bO m) lo kd) E fun x H'=>∀ la as,H la=none->H' la=some (.lst (as.map V.ref))->Within t H' x as->Q (.ref la) H'
theorem AB{t:bH}(T:b7 K mg t){m j:Nat}(hj:5<=j)(RS1:bL P w K mg base (nG P w) (j+1) t.c4.f t.c4.fd RT (oV m t K))(RL1:bL P w K mg base (nG P w) (j+1) t.fQ.f t.fQ.fd RT (tI m t K)) :
 bL P w K mg base (nG P w) (j+2) t.d7.f t.d7.fd ["reader","kind","room","leaders_allowed"] (wG m t K):=by
 refine T.d7.F.C_ o8 (fun vs H Q E h=>?_) (fun cdv A outer s H vs Q E hr h=>?_)
 ·obtain ⟨a,dx,nl,ns,k,kd,lo,rfl,_⟩:=h
  rfl
 ·obtain ⟨a,dx,nl,ns,k,kd,lo,rfl,hdk,R,qw,q⟩:=h
  refine ⟨_,(aB (a_ (tc bY (pv 1) (aW T.rA)) (aE (aM (bR (aA (cf RL1 T.fQ hr aX (aA (pv 0) (aA (pv 2) (aA (pv 3) aF)))) aF)))) aR) (gZ (a_ (tc bY (pv 1) (aW T.yF)) (aE (bJ (cf (B0 T) T.gF hr aX (aA (pv 0) aF)))) (aE (a_ (tc bY (pv 1) (aW T.L3)) (aB (sv 4 o8.nd (cf RS1 T.c4 hr aX (aA (pv 0) (aA (pv 2) (aA (pv 3) aF))))) (aB (sv 5 o8.nd (cf RS1 T.c4 hr aX (aA (pv 0) (aA (pv 2) (aA (pv 3) aF))))) (aE (aM (bW eN (bW eN (pv 4) (pv 5)) (cf RS1 T.c4 hr aX (aA (pv 0) (aA (pv 2) (aA (pv 3) aF))))))))) (aE (a_ (tc bY (pv 1) (aW T.kC)) (aB (bJ (cP (pv 0) T.aS.cl T.bA.m (b4 T) hr.m T.bA.b .nil aX (aA aG (aA (aW T.mV) aF)))) (aB (bJ (dN (pv 0) T.aS.cl T.b_.m (jA T) hr.m T.b_.b .nil aX)) (aE (bJ (cP (pv 0) T.aS.cl T.bB.m (cU T) hr.m T.bB.b .nil aX (aA aG aF)))))) aR))))) (aE (aM (cf RS1 T.c4 hr aX (aA (pv 0) (aA (pv 2) (aA (pv 3) aF)))))))),?_⟩
  refine ⟨_,rfl,rfl,_,rfl,aQ (fun z=>?_) fun z3=>?_⟩
  ·rw [a8,decide_eq_true_eq] at z
   subst z
   rw [Ll] at qw q
   refine ⟨_,rfl,_,rfl,_,rfl,a,dx,nl,ns,k,lo,rfl,R,fun hn=>qw (by rw [hn];rfl),fun y k' hy hk H1 u1 R1 p hp=>⟨(sz 1),fun la nla=>?_⟩⟩
   have s2:∀ o,aK H1 (a6 H1 la o):=fun o=>aK.new nla
   refine q _ k' (by rw [hy];rfl) hk _ (u1.trans (s2 (.lst [.ref p])).fC) (R1.same (s2 _)) la [p] (u1.free R1.obj nla) aD ⟨fun g how y' e=>?_,fun c g d k l e=>by cases e⟩
   cases e
   exact ⟨Nw hy,p,rfl,hp.fix (s2 _).fix⟩
  rw [a8,decide_eq_false_iff_not] at z3
  unfold hU at qw q
  rw [if_neg z3] at qw q
  refine ⟨fun σ' H'=>∃ (k1:Nat) (v4 v5:Option V) (wrap:List Thing->Thing),σ'=[some (.ref a),some (.int kd),some (.int (m:Int)),some (.bl lo),v4,v5]/\bG [a] H H'/\kZ t H' a dx nl ns k1/\k<=k1/\hU (bO m) lo kd (ns.drop k)=(listIn (bO m lo) (ns.drop k1)).map (fun y=>(wrap y.1,y.2))/\(∀ l g how y,wrap l≠.leaders g how y)/\∀ l c g d k l',wrap l=.insert c g d k l'->l'=l,?_,?_⟩
  ·refine ⟨_,rfl,rfl,_,rfl,aQ (fun z=>?_) fun z6=>?_⟩
   ·rw [a8,decide_eq_true_eq] at z
    rw [if_pos z] at qw q
    refine ⟨_,rfl,a,dx,nl,ns,k,rfl,R,fun hn=>qw (by rw [hn];rfl),fun x k1 hx hk H1 u1 R1=>?_⟩
    refine ⟨k1,none,none,x.box,rfl,u1,R1,hk,?_,fun l g how y e=>(by cases e),fun l c g d k l' e=>(by cases e)⟩
    unfold hU;rw [if_neg z3,if_pos z,hx];rfl
   rw [a8,decide_eq_false_iff_not] at z6
   rw [if_neg z6] at qw q
   refine ⟨_,rfl,rfl,_,rfl,aQ (fun z=>?_) fun z7=>?_⟩
   ·rw [a8,decide_eq_true_eq] at z
    rw [if_pos z] at qw q
    refine ⟨_,rfl,_,rfl,_,rfl,a,dx,nl,ns,k,lo,rfl,R,fun hn=>qw (by rw [hn];rfl),fun l1 k1 h1 g1 H1 u1 R1 la as nla f1 T1=>?_⟩
    rw [h1] at qw q
    simp only [Option.bind_some] at qw q
    refine ⟨_,rfl,_,rfl,_,rfl,a,dx,nl,ns,k1,lo,rfl,R1,fun hn=>(qw (by rw [hn];rfl)).up u1,fun l2 k2 h2 g2 H2 u2 R2 lb bs nlb f2 T2=>?_⟩
    rw [h2] at qw q
    simp only [Option.bind_some] at qw q
    have na1:la≠a:=cX f1 R1.obj nofun
    have nb1:lb≠a:=cX f2 R2.obj nofun
    have f1':=u2 _ _ f1 (by simpa using na1)
    have sz1:=uG h1
    have sz2:=uG h2
    have hl:=R.len
    have e0:(ns.drop k).length<=ns.length:=by rw [length_drop];omega
    refine ⟨_,rfl,_,rfl,la,lb,_,_,rfl,rfl,.inl f1',.inl f2,?_,fun lc nlc=>?_⟩
    ·rw [length_map,length_map,T1.len,T2.len,sizeLine_eq];omega
    generalize eH3:a6 H2 lc _=H3
    have s3:aK H2 H3:=eH3▸aK.new nlc
    have f3:H3 lc=some (.lst (as.map V.ref++bs.map V.ref)):=eH3▸aD
    have R3:=R2.same s3
    have u3:bG [a] H H3:=(u1.trans u2).trans s3.fC
    refine ⟨_,rfl,_,rfl,_,rfl,a,dx,nl,ns,k2,lo,rfl,R3,fun hn=>(qw (by rw [hn];rfl)).up u3,fun l3 k3 h3 g3 H4 u4 R4 ld ds nld f4 T3=>?_⟩
    have nc1:lc≠a:=cX f3 R3.obj nofun
    have f3':=u4 _ _ f3 (by simpa using nc1)
    have sz3:=uG h3
    refine ⟨lc,ld,_,_,rfl,rfl,.inl f3',.inl f4,?_,fun le nle=>?_⟩
    ·rw [length_append,length_map,length_map,length_map,T1.len,T2.len,T3.len,sizeLine_eq];omega
    have s5:∀ o,aK H4 (a6 H4 le o):=fun o=>aK.new nle
    have u4':bG [a] H H4:=u3.trans u4
    refine q _ k3 (by rw [h3];rfl) (by omega) _ (u4'.trans (s5 (.lst ((as.map V.ref++bs.map V.ref)++ds.map V.ref))).fC) (R4.same (s5 _)) le (as++bs++ds) (u4'.free R4.obj nle) (by rw [aD];simp) ⟨fun g how y e=>(by cases e),fun c g d k l e=>(by cases e)⟩
   rw [a8,decide_eq_false_iff_not] at z7
   rw [if_neg z7] at qw q
   refine ⟨_,rfl,rfl,_,rfl,aQ (fun z=>?_) fun z10=>?_⟩
   ·rw [a8,decide_eq_true_eq] at z
    have z8:¬ kd=8:=by omega
    rw [if_neg z8] at qw q
    have ed:hU (bO m) lo kd (ns.drop k)=(bZ 0 CLASSES (ns.drop k)).bind fun c=>(oE c.2).bind fun g=>(gR 2 g.2).bind fun d=>(listIn (bO m lo) d.2).map fun x=>(Thing.insert c.1.toNat g.1 (d.1.getD 0 0) (d.1.getD 1 0) x.1,x.2):=by
     unfold hU
     rw [if_neg z3,if_neg z6,if_neg z7,if_neg z8]
     cases bZ 0 CLASSES (ns.drop k) with
     | none=>rfl
     | some c =>
      show (oE c.2).bind _=(oE c.2).bind _
      cases oE c.2 with
      | none=>rfl
      | some g =>
       show (c9 g.2).bind _=(gR 2 g.2).bind _
       rw [Hj]
       cases c9 g.2 with
       | none=>rfl
       | some x =>
        show (c9 x.2).bind _=((c9 x.2).map _).bind _
        cases c9 x.2 with
        | none=>rfl
        | some y=>rfl
    have qw:hU (bO m) lo kd (ns.drop k)=none->FI t H a E:=fun h=>qw (by
     have:=h;unfold hU at this;rw [if_neg z3,if_neg z6,if_neg z7,if_neg z8] at this;exact this)
    rw [ed] at qw
    refine ⟨_,rfl,a,dx,_,rfl,R.obj,rfl,a,dx,nl,ns,k,_,_,rfl,R,fun hn=>qw (by rw [show bZ 0 CLASSES (ns.drop k)=none from hn];rfl),fun x1 k1 h1 l1 H1 u1 R1=>?_⟩
    rw [show bZ 0 CLASSES (ns.drop k)=some (x1,ns.drop k1) from h1] at qw ed
    simp only [Option.bind_some] at qw ed
    refine ⟨_,rfl,a,dx,_,rfl,R1.obj,rfl,a,dx,nl,ns,k1,rfl,R1,fun hn=>(qw (by rw [hn];rfl)).up u1,fun x2 k2 h2 l2 H2 u2 R2=>?_⟩
    rw [h2] at qw ed
    simp only [Option.bind_some] at qw ed
    have u2:=u1.trans u2
    refine ⟨_,rfl,a,dx,_,rfl,R2.obj,rfl,a,dx,nl,ns,k2,2,rfl,by decide,R2,fun hn=>(qw (by rw [hn];rfl)).up u2,fun x3 k3 h3 l3 H3 u3 R3=>?_⟩
    rw [h3] at ed
    simp only [Option.bind_some] at ed
    exact ⟨k3,none,none,fun l=>.insert x1.toNat x2 (x3.getD 0 0) (x3.getD 1 0) l,rfl,u2.trans u3,R3,by omega,ed,fun l g how y e=>(by cases e),fun l c g d k l' e=>(by cases e;rfl)⟩
   ·rw [a8,decide_eq_false_iff_not] at z10
    have z8:kd=8:=by
     unfold dJ at hdk
     simp only [Bool.or_eq_true,beq_iff_eq] at hdk
     omega
    refine ⟨k,none,none,.adjust,rfl,bG.refl,R,Nat.le_refl _,?_,fun l g how y e=>(by cases e),fun l c g d k l' e=>(by cases e)⟩
    unfold hU;rw [if_neg z3,if_neg z6,if_neg z7,if_pos z8]
  ·rintro σ' H1 ⟨k1,v4,v5,wrap,rfl,u1,R1,hk1,ed,w1,w2⟩
   have qw:hU (bO m) lo kd (ns.drop k)=none->FI t H a E:=fun h=>qw (by
    have:=h;unfold hU at this;rw [if_neg z3] at this;exact this)
   have q:∀ x k',hU (bO m) lo kd (ns.drop k)=some (x,ns.drop k')->k<=k'->∀ H',bG [a] H H'->kZ t H' a dx nl ns k'->∀ la as,H la=none->H' la=some (.lst (as.map V.ref))->Within t H' x as->Q (.ref la) H':=fun x k' h=>q x k' (by
    have:=h;unfold hU at this;rw [if_neg z3] at this;exact this)
   rw [ed] at qw q
   refine ⟨_,rfl,_,rfl,_,rfl,a,dx,nl,ns,k1,lo,rfl,R1,fun hn=>(qw (by rw [hn];rfl)).up u1,fun l k2 h2 g2 H2 u2 R2 la as nla f2 T2=>?_⟩
   refine q (wrap l) k2 (by rw [h2];rfl) (by omega) H2 (u1.trans u2) R2 la as (u1.free R1.obj nla) f2 ⟨fun g how y e=>absurd e (w1 l g how y),fun c g d k l' e=>?_⟩
   rw [w2 l c g d k l' e];exact T2
theorem Ov{CX:CXT}{k:Nat}{f:Addr}{fd:FuncData}{ps:List Str}:bL P w K mg base CX k f fd ps (fun _ _ _ _=>False):=⟨fun _ _ _ _ h=>h.elim,fun _ _ _ _ _ _ _ _ _ _ _ _ _ h=>h.elim⟩
theorem Ml(kd:Int):inV (.int kd) ([3,6,7,8,10].map V.int)=dJ kd:=by
 have e:∀ a:Int,eqV (.int a) (.int kd)=(kd==a):=fun a=>by
  show (a==kd)=(kd==a)
  rw [Bool.eq_iff_iff,beq_iff_eq,beq_iff_eq];exact eq_comm
 unfold inV dJ
 simp only [map_cons,List.map_nil,List.any_cons,List.any_nil,e,Bool.or_false]
theorem pV{kd:Int}{r u:List Int}{x:Thing}(h:iR kd r=some (x,u)):(∀ g how y,x≠.leaders g how y)/\∀ c g d k l,x≠.insert c g d k l:=by
 have key:∀ {α:Type} {o:Option (α×List Int)} {f:α->Thing} {y:Thing×List Int},o.map (fun z=>(f z.1,z.2))=some y->∃ z,y.1=f z:=fun {α o f y} h=>by
  obtain ⟨z,_,e⟩:=gH.mp h
  exact ⟨z.1,by rw [<-e]⟩
 unfold iR at h
 split at h
 ·obtain ⟨_,_,h⟩:=nN.mp h
  obtain ⟨_,_,h⟩:=nN.mp h
  obtain ⟨_,_,h⟩:=nN.mp h
  obtain ⟨_,_,h⟩:=gH.mp h
  cases h;exact ⟨fun _ _ _ e=>(by cases e),fun _ _ _ _ _ e=>(by cases e)⟩
 split at h
 ·obtain ⟨_,_,h⟩:=gH.mp h
  cases h;exact ⟨fun _ _ _ e=>(by cases e),fun _ _ _ _ _ e=>(by cases e)⟩
 split at h
 ·obtain ⟨_,_,h⟩:=gH.mp h
  cases h;exact ⟨fun _ _ _ e=>(by cases e),fun _ _ _ _ _ e=>(by cases e)⟩
 split at h
 ·obtain ⟨_,_,h⟩:=gH.mp h
  cases h;exact ⟨fun _ _ _ e=>(by cases e),fun _ _ _ _ _ e=>(by cases e)⟩
 split at h
 ·obtain ⟨_,_,h⟩:=nN.mp h
  obtain ⟨_,_,h⟩:=nN.mp h
  obtain ⟨_,_,h⟩:=gH.mp h
  cases h;exact ⟨fun _ _ _ e=>(by cases e),fun _ _ _ _ _ e=>(by cases e)⟩
 split at h
 ·obtain ⟨_,_,h⟩:=gH.mp h
  cases h;exact ⟨fun _ _ _ e=>(by cases e),fun _ _ _ _ _ e=>(by cases e)⟩
 ·obtain ⟨_,_,h⟩:=gH.mp h
  cases h;exact ⟨fun _ _ _ e=>(by cases e),fun _ _ _ _ _ e=>(by cases e)⟩
theorem Np{n:Nat}{lo:Bool}{ns:List Int}{k k':Nat}{x:Thing}(hn:n<=8)(h:bO n lo (ns.drop k)=some (x,ns.drop k'))(h1:k<=k')(h2:k'<=ns.length):(ns.drop k).take (k' - k)=nums 9 x/\fits 9 x=true:=by
 obtain ⟨e,hr⟩:=pI h
 have hf:=Ik (fT n x hr) (9 - n)
 rw [show n+(9 - n)=9 from by omega] at hf
 refine ⟨?_,hf.1⟩
 have hl:=congrArg List.length e
 rw [length_append,length_drop,length_drop] at hl
 rw [e,hf.2,List.take_append_of_le_length (by omega),List.take_of_length_le (by omega)]
theorem kZ.keep{t:bH}{H H':Hp}{a dx nl:Addr}{ns:List Int}{k:Nat}(R:kZ t H a dx nl ns k)(h:∀ b o,b=a\/b=nl->H b=some o->H' b=some o):kZ t H' a dx nl ns k :=
 ⟨h _ _ (.inl rfl) R.obj,R.nums.imp (fun e=>h _ _ (.inr rfl) e) fun ⟨ob,e⟩=>⟨ob,h _ _ (.inr rfl) e⟩,R.len,R.le⟩
theorem FC{t:bH}(T:b7 K mg t){H H1:Hp}{a dx nl il l3:Addr}{ns:List Int}{k k' n:Nat}{x:Thing}{as:List Addr}{Q:VK}{lo:Bool}(hn:n<=8)(R0:kZ t H a dx nl ns k)(hx:bO n lo (ns.drop k)=some (x,ns.drop k'))(hk:k<=k')(u:bG [a] H H1)(R:kZ t H1 a dx nl ns k')(nil_:H il=none)(f1:H1 il=some (.lst (as.map V.ref)))(W:Within t H1 x as)(n3:H1 l3=none)
 (q:∀ H',bG [a] H H'->kZ t H' a dx nl ns k'->∀ p,bQ t H' p x->Q (.ref p) H') :
 ∀ p d2,a6 H1 l3 (.lst (jB (ns.map V.int) (some (k:Int)) (some (k':Int)))) p=none->a6 H1 l3 (.lst (jB (ns.map V.int) (some (k:Int)) (some (k':Int)))) d2=none->d2≠p →
  p_ t K (.ref p::([.ref l3,.ref il]++[])) (a6 (a6 (a6 H1 l3 (.lst (jB (ns.map V.int) (some (k:Int)) (some (k':Int))))) d2 (.own p)) p (.ins t.cB d2 [])) (fun v H'=>v=.eX/\Q (.ref p) H') E0:=by
 obtain ⟨e1,e2⟩:=Np hn hx hk R.le
 have ec:jB (ns.map V.int) (some (k:Int)) (some (k':Int))=(nums 9 x).map V.int:=by
  rw [w9 _ _ _ (by rw [length_map];exact R.le) hk,<-List.map_drop,<-List.map_take,e1]
 rw [ec]
 intro p d2 np nd ne
 have s3:∀ o,aK H1 (a6 H1 l3 o):=fun o=>aK.new n3
 have sd:aK (a6 H1 l3 (.lst ((nums 9 x).map V.int))) (a6 (a6 (a6 H1 l3 (.lst ((nums 9 x).map V.int))) d2 (.own p)) p (.ins t.cB d2 [])):=(aK.new nd).trans (aK.new (by rw [aJ (Ne.symm ne)];exact np))
 have ss:=(s3 (.lst ((nums 9 x).map V.int))).trans sd
 have fl:a6 H1 l3 (.lst ((nums 9 x).map V.int)) l3=some (.lst ((nums 9 x).map V.int)):=aD
 have nil3:il≠l3:=aH f1 n3
 have nilp:il≠p:=aH (s3 _ _ _ f1) np
 refine ⟨p,d2,l3,.ref il,x,rfl,aD,sd _ _ fl,e2,fun g how y e=>?_,fun hi=>?_,fun H' kp _ hA=>⟨rfl,?_⟩⟩
 ·obtain ⟨w1,b,rfl,w2⟩:=W.1 g how y e
  exact ⟨w1,il,b,rfl,cT.of (ss _ _ f1),w2.fix ss.fix⟩
 ·cases x with
  | insert c g d kk l=>exact ⟨c,g,d,kk,l,il,as,rfl,rfl,nil3,ss _ _ f1,(W.2 c g d kk l rfl).fix ss.fix⟩
  | _=>cases hi
 ·have kk:∀ b o,H1 b=some o->H b≠none->H' b=some o:=by
   intro b o e hb
   refine kp b o (ss _ _ e) (aH (s3 (.lst ((nums 9 x).map V.int)) _ _ e) np) (aH e n3) fun _ z=>?_
   rw [V.ref.inj z] at nil_
   exact hb nil_
  refine q H' (fun b o e hb=>kk b o (u b o e hb) (by rw [e];simp)) (R.keep fun b o hb e=>kk b o e ?_) p hA
  rcases hb with rfl|rfl
  ·rw [R0.obj];simp
  ·rcases R0.nums with h|⟨ob,h⟩
   ·rw [h];simp
   ·rw [h];simp
theorem Ad{t:bH}(T:b7 K mg t):bL P w K mg base (nG P w) 6 t.cY.f t.cY.fd RT (jH 0 t K):=by
 refine T.cY.F.C_ dB (fun vs H Q E h=>?_) (fun cdv A outer s H vs Q E hr h=>?_)
 ·obtain ⟨a,dx,nl,ns,k,lo,rfl,_⟩:=h
  rfl
 ·obtain ⟨a,dx,nl,ns,k,lo,rfl,R,qw,q⟩:=h
  have RD0:bL P w K mg base (nG P w) 5 t.d7.f t.d7.fd ["reader","kind","room","leaders_allowed"] (fun _ _ _ _=>False):=Ov
  refine ⟨_,(aB (sv 3 dB.nd (aZ T.aS.cl T.b8 (pv 0))) (aB (sv 4 dB.nd (cP (pv 0) T.aS.cl T.bA.m (b4 T) hr.m T.bA.b .nil aX (aA (aW T.Jk) (aA (aW T.La) aF)))) (gZ (a_ (BY HU (pv 4) (pG (aA (aW T.rA) (aA (aW T.yF) (aA (aW T.L3) (aA (aW T.Ko) (aA (aW T.kC) aF)))))) (by with_unfolding_all rfl)) (aB (a_ (tc bY (pv 1) aG) (aE (dQ eG hr.hd rfl T.cC)) aR) (aE (sv 5 dB.nd (cf RD0 T.d7 hr aX (aA (pv 0) (aA (pv 4) (aA (bW jW (pv 1) aG) (aA (pv 2) aF)))))))) (aB (sv 5 dB.nd (bR aF)) (aE (bJ (cf (zN T) T.jR hr aX (aA (pv 0) (aA (pv 4) aF))))))) (aE (aM (cn (fS T) T.aP hr (aA (eF gB (aZ T.aS.cl T.dE (pv 0)) (dM (pv 3)) (dM (aZ T.aS.cl T.b8 (pv 0)))) (aA (pv 5) aF)))))))),?_⟩
  refine ⟨_,rfl,a,dx,_,_,rfl,R.obj,rfl,?_⟩
  have em:bO (0) lo (ns.drop k)=(bZ 0 11 (ns.drop k)).bind fun x=>if dJ x.1=true then none else iR x.1 x.2:=rfl
  refine ⟨_,rfl,a,dx,_,rfl,R.obj,rfl,a,dx,nl,ns,k,_,_,rfl,R,fun hn=>qw (by rw [em,hn];rfl),fun kd k1 h1 l1 H1 u1 R1=>?_⟩
  rw [h1] at em
  simp only [Option.bind_some] at em
  refine ⟨fun σ' H'=>∃ (k':Nat) (x:Thing) (il:Addr) (as:List Addr),σ'=[some (.ref a),some (.int ((0:Nat):Int)),some (.bl lo),some (.int (k:Int)),some (.int kd),some (.ref il)]/\bO (0) lo (ns.drop k)=some (x,ns.drop k')/\k<=k'/\bG [a] H H'/\kZ t H' a dx nl ns k'/\H il=none/\H' il=some (.lst (as.map V.ref))/\Within t H' x as,?_,?_⟩
  ·refine ⟨_,rfl,(sz 5),fun tp ntp=>?_⟩
   generalize eH2:a6 H1 tp _=H2
   have s2:aK H1 H2:=eH2▸aK.new ntp
   have f2:H2 tp=some (.tup ([3,6,7,8,10].map V.int)):=eH2▸aD
   have R2:=R1.same s2
   have u2:bG [a] H H2:=u1.trans s2.fC
   refine ⟨tp,_,rfl,.inr (SqT.of f2),rfl,rfl,_,rfl,?_⟩
   show (if inV (.int kd) ([3,6,7,8,10].map V.int)=true then _ else _)
   rw [Ml]
   refine aQ (fun z=>?_) fun z=>?_
   ·rw [if_pos z] at em
    refine ⟨_,rfl,rfl,_,rfl,aQ (fun _=>?_) fun z2=>absurd z2 (by rw [a8];decide)⟩
    exact qw em H2 u2
   ·rw [if_neg (by rw [z];decide)] at em
    refine ⟨Nat.zero_le _,fun il nil2=>?_⟩
    have s3:∀ o,aK H2 (a6 H2 il o):=fun o=>aK.new nil2
    have u3:=u2.trans (s3 (.lst [])).fC
    refine ⟨_,rfl,_,rfl,a,dx,nl,ns,k1,kd,rfl,R2.same (s3 _),fun hn=>(qw (em.trans hn)).up u3,fun x k' hx hk' H4 u4 R4=>?_⟩
    have nila:il≠a:=cX (aD (H:=H2) (a:=il) (o:=.lst [])) ((s3 _) _ _ R2.obj) nofun
    refine ⟨k',x,il,[],rfl,em.trans hx,by omega,u3.trans u4,R4,u2.free R2.obj nil2,u4 _ _ aD (by simpa using nila),fun g how y e=>absurd e ((pV hx).1 g how y),fun c g d kk l e=>absurd e ((pV hx).2 c g d kk l)⟩
  ·rintro σ' H3 ⟨k',x,il,as,rfl,hx,hk,u3,R3,nil_,f3,W3⟩
   refine ⟨_,rfl,a,dx,_,_,rfl,R3.obj,rfl,_,rfl,_,rfl,_,rfl,a,dx,_,_,rfl,R3.obj,rfl,_,rfl,nl,_,rfl,.inl R3.nums,fun l3 n3=>⟨_,rfl,?_⟩⟩
   exact FC T (n:=0) (by omega) R hx hk u3 R3 nil_ f3 W3 n3 (fun H' u' R' p hp=>q x k' hx hk H' u' R' p hp)
theorem zV{t:bH}(T:b7 K mg t){m j:Nat}(hm:m+1<=8)(hj:5<=j)(RD1:bL P w K mg base (nG P w) j t.d7.f t.d7.fd ["reader","kind","room","leaders_allowed"] (wG m t K)):bL P w K mg base (nG P w) (j+1) t.cY.f t.cY.fd RT (jH (m+1) t K):=by
 refine T.cY.F.C_ dB (fun vs H Q E h=>?_) (fun cdv A outer s H vs Q E hr h=>?_)
 ·obtain ⟨a,dx,nl,ns,k,lo,rfl,_⟩:=h
  rfl
 ·obtain ⟨a,dx,nl,ns,k,lo,rfl,R,qw,q⟩:=h
  refine ⟨_,(aB (sv 3 dB.nd (aZ T.aS.cl T.b8 (pv 0))) (aB (sv 4 dB.nd (cP (pv 0) T.aS.cl T.bA.m (b4 T) hr.m T.bA.b .nil aX (aA (aW T.Jk) (aA (aW T.La) aF)))) (gZ (a_ (BY HU (pv 4) (pG (aA (aW T.rA) (aA (aW T.yF) (aA (aW T.L3) (aA (aW T.Ko) (aA (aW T.kC) aF)))))) (by with_unfolding_all rfl)) (aB (a_ (tc bY (pv 1) aG) (aE (dQ eG hr.hd rfl T.cC)) aR) (aE (sv 5 dB.nd (cf RD1 T.d7 hr aX (aA (pv 0) (aA (pv 4) (aA (bW jW (pv 1) aG) (aA (pv 2) aF)))))))) (aB (sv 5 dB.nd (bR aF)) (aE (bJ (cf (zN T) T.jR hr aX (aA (pv 0) (aA (pv 4) aF))))))) (aE (aM (cn (fS T) T.aP hr (aA (eF gB (aZ T.aS.cl T.dE (pv 0)) (dM (pv 3)) (dM (aZ T.aS.cl T.b8 (pv 0)))) (aA (pv 5) aF)))))))),?_⟩
  refine ⟨_,rfl,a,dx,_,_,rfl,R.obj,rfl,?_⟩
  have em:bO (m+1) lo (ns.drop k)=(bZ 0 11 (ns.drop k)).bind fun x=>if dJ x.1=true then hU (bO m) lo x.1 x.2 else iR x.1 x.2:=rfl
  refine ⟨_,rfl,a,dx,_,rfl,R.obj,rfl,a,dx,nl,ns,k,_,_,rfl,R,fun hn=>qw (by rw [em,hn];rfl),fun kd k1 h1 l1 H1 u1 R1=>?_⟩
  rw [h1] at em
  simp only [Option.bind_some] at em
  refine ⟨fun σ' H'=>∃ (k':Nat) (x:Thing) (il:Addr) (as:List Addr),σ'=[some (.ref a),some (.int ((m+1:Nat):Int)),some (.bl lo),some (.int (k:Int)),some (.int kd),some (.ref il)]/\bO (m+1) lo (ns.drop k)=some (x,ns.drop k')/\k<=k'/\bG [a] H H'/\kZ t H' a dx nl ns k'/\H il=none/\H' il=some (.lst (as.map V.ref))/\Within t H' x as,?_,?_⟩
  ·refine ⟨_,rfl,(sz 5),fun tp ntp=>?_⟩
   generalize eH2:a6 H1 tp _=H2
   have s2:aK H1 H2:=eH2▸aK.new ntp
   have f2:H2 tp=some (.tup ([3,6,7,8,10].map V.int)):=eH2▸aD
   have R2:=R1.same s2
   have u2:bG [a] H H2:=u1.trans s2.fC
   refine ⟨tp,_,rfl,.inr (SqT.of f2),rfl,rfl,_,rfl,?_⟩
   show (if inV (.int kd) ([3,6,7,8,10].map V.int)=true then _ else _)
   rw [Ml]
   refine aQ (fun z=>?_) fun z=>?_
   ·rw [if_pos z] at em
    refine ⟨_,rfl,rfl,_,rfl,aQ (fun z2=>?_) fun _=>?_⟩
    ·rw [a8,decide_eq_true_eq] at z2
     have:((m+1:Nat):Int)=0:=z2
     omega
    refine ⟨_,rfl,_,rfl,_,rfl,_,_,rfl,rfl,_,rfl,a,dx,nl,ns,k1,kd,lo,?_,z,R2,fun hn=>(qw (em.trans hn)).up u2,fun x k' hx hk' H3 u3 R3 la as nla f3 W3=>?_⟩
    ·have:((m+1:Nat):Int) - 1=(m:Int):=by omega
     show [V.ref a,V.int kd,V.int (((m+1:Nat):Int) - 1),V.bl lo]=_
     rw [this]
    ·exact ⟨k',x,la,as,rfl,em.trans hx,by omega,u2.trans u3,R3,u2.free R2.obj nla,f3,W3⟩
   ·rw [if_neg (by rw [z];decide)] at em
    refine ⟨Nat.zero_le _,fun il nil2=>?_⟩
    have s3:∀ o,aK H2 (a6 H2 il o):=fun o=>aK.new nil2
    have u3:=u2.trans (s3 (.lst [])).fC
    refine ⟨_,rfl,_,rfl,a,dx,nl,ns,k1,kd,rfl,R2.same (s3 _),fun hn=>(qw (em.trans hn)).up u3,fun x k' hx hk' H4 u4 R4=>?_⟩
    have nila:il≠a:=cX (aD (H:=H2) (a:=il) (o:=.lst [])) ((s3 _) _ _ R2.obj) nofun
    refine ⟨k',x,il,[],rfl,em.trans hx,by omega,u3.trans u4,R4,u2.free R2.obj nil2,u4 _ _ aD (by simpa using nila),fun g how y e=>absurd e ((pV hx).1 g how y),fun c g d kk l e=>absurd e ((pV hx).2 c g d kk l)⟩
  ·rintro σ' H3 ⟨k',x,il,as,rfl,hx,hk,u3,R3,nil_,f3,W3⟩
   refine ⟨_,rfl,a,dx,_,_,rfl,R3.obj,rfl,_,rfl,_,rfl,_,rfl,a,dx,_,_,rfl,R3.obj,rfl,_,rfl,nl,_,rfl,.inl R3.nums,fun l3 n3=>⟨_,rfl,?_⟩⟩
   exact FC T (n:=m+1) (by omega) R hx hk u3 R3 nil_ f3 W3 n3 (fun H' u' R' p hp=>q x k' hx hk H' u' R' p hp)
theorem rM{t:bH}(T:b7 K mg t):∀ m,m<=8->bL P w K mg base (nG P w) (6+3*m) t.cY.f t.cY.fd RT (jH m t K)
 | 0,_=>Ad T
 | m+1,h=>by
  have ih:=rM T m (by omega)
  have a:=p5 T (by omega) ih
  have b:=zX T (by omega) ih
  have c:=AB T (by omega) a b
  have d:=zV T (j:=6+3*m+2) h (by omega) c
  have e:6+3*m+2+1=6+3*(m+1):=by omega
  rw [e] at d;exact d
theorem B_{t:bH}(T:b7 K mg t):bL P w K mg base (nG P w) 31 t.c4.f t.c4.fd RT (oV 8 t K):=p5 T (by decide) (rM T 8 (by decide))
inductive B8(t:bH)(K:Frag)(vs:List V)(H:Hp)(Q:VK)(E:XK):Prop
 | mk:∀ (nl:Addr) (ns:List Int),vs=[.ref nl]->Rd H nl (.lst (ns.map V.int))->ns.length<=5000000->(xW ns=none->∀ H',aK H H'->E (.ref t.cC) none H')->(∀ l,xW ns=some l->∀ la as H',aK H H'->H la=none->H' la=some (.lst (as.map V.ref))->aL t H' as l->Q (.ref la) H')->B8 t K vs H Q E
theorem sF{t:bH}(T:b7 K mg t):bL P w K mg base (nG P w) 32 t.hZ.f t.hZ.fd ["numbers"] (B8 t K):=by
 refine T.hZ.F.C_ rZ (fun vs H Q E h=>?_) (fun cdv A outer s H vs Q E hr h=>?_)
 ·obtain ⟨nl,ns,rfl,_⟩:=h
  rfl
 ·obtain ⟨nl,ns,rfl,hN,hl,qw,q⟩:=h
  refine ⟨_,(aB (sv 1 rZ.nd (cn (Fq T) T.aS hr (aA (pv 0) aF))) (aB (sv 2 rZ.nd (cf (B_ T) T.c4 hr aX (aA (pv 1) (aA (aW T.M1) (aA mG aF))))) (aB (a_ (tc Mm (aZ T.aS.cl T.b8 (pv 1)) (ln T.f_ (pv 0))) (aE (dQ eG hr.hd rfl T.cC)) aR) (aE (aM (pv 2)))))),?_⟩
  refine ⟨_,rfl,fun a dx na nd ne=>?_⟩
  have s0:aK H (a6 (a6 H dx (.own a)) a (.ins t.gV dx [])):=(aK.new nd).trans (aK.new (by rw [aJ (Ne.symm ne)];exact na))
  refine ⟨a,dx,nl,ns,rfl,aD,s0.rd hN,hl,fun H1 u1 R1=>⟨rfl,?_⟩⟩
  have up:∀ {H2:Hp},bG [a] H1 H2->aK H H2:=fun u b o e=>u b o (u1 b o (s0 b o e) (by simpa using aH e na)) (by simpa using aH e na)
  have em:xW ns=match listIn (bO 8 true) ns with
   | some (l,[])=>some l
   | _=>none:=rfl
  refine ⟨_,rfl,a,dx,nl,ns,0,true,rfl,R1,fun hn=>?_,fun l k' hx hk H2 u2 R2 la as nla f2 T2=>?_⟩
  ·rw [List.drop_zero] at hn
   rw [hn] at em
   exact fun H2 u2=>qw em H2 (up u2)
  rw [List.drop_zero] at hx
  rw [hx] at em
  have s2:=up u2
  refine ⟨_,rfl,a,dx,_,_,rfl,R2.obj,rfl,_,rfl,nl,_,rfl,.inl (.inl (s2.rd hN)),rfl,_,rfl,?_⟩
  rw [a8,length_map]
  refine aQ (fun z=>?_) fun z=>?_
  ·have hne:¬ (k':Int)=ns.length:=by simpa using z
   refine qw ?_ H2 s2
   rw [em]
   have:ns.drop k'≠[]:=fun e=>by
    have:=congrArg List.length e
    rw [length_drop] at this
    have h3:=R2.le
    simp at this;omega
   cases e:ns.drop k' with
   | nil=>exact absurd e this
   | cons _ _=>rfl
  ·have he:(k':Int)=ns.length:=by simpa using z
   have:ns.drop k'=[]:=List.drop_of_length_le (by omega)
   rw [this] at em
   have nlaH:H la=none:=by
    cases e:H la with
    | none=>rfl
    | some o=>rw [u1 la o (s0 _ _ e) (by simpa using aH e na)] at nla;cases nla
   exact ⟨_,rfl,q l em la as H2 s2 nlaH f2 T2⟩
end
section
variable {P:Program}{w:World}{K:Frag}{mg:Str->Option Value}{base:Heap}{N:List Str}{qual:Str}{scope:Scope}{f:Addr}{cd:Value}{A:Around}{outer:List Env}{s:Shared}{H:Hp}{E:XK}
theorem EA(e:Addr):PassesOwnAt (model P w) ((uH (nG P w) P w K mg base N qual scope f cd A outer s H E).A.mark (some (.ref e))) (uH (nG P w) P w K mg base N qual scope f cd A outer s H E).A (uH (nG P w) P w K mg base N qual scope f cd A outer s H E).env (uH (nG P w) P w K mg base N qual scope f cd A outer s H E).xe:=PassesOwnAt.leaving
end
section
variable {X:Cx}{E:XK}{x x2:Str}{C C2:Addr}{m:Str}{j:Nat}{p np np2 cpos pos rpos:Pos}{rest:List ExceptHandler}
theorem NG(hg:Gl X x)(hm:X.mg x=some (.ref C))(hE:∀ e,PassesOwnAt (model X.prog X.w) (X.A.mark (some (.ref e))) X.A X.env X.xe)(hR:AZ X E)(hg2:Gl X x2)(T:ExT X.K X.mg x2 C2)(hd:(x==("__debug__":Str))=false:=by decide)(hd2:(x2==("__debug__":Str))=false:=by decide) :
 PH X (.ExceptHandler (some (.Name x np)) none [.Raise (some (.Call (.Name x2 np2) [.Constant (.str m) j p] [] cpos)) none rpos] pos::rest)
  (fun _ _ cls a H=>exmOne X.K cls (.ref C)=some true/\a=none/\∀ ea,E (.ref C2) (some ea) H):=by
 obtain ⟨bm,nid,h1,B,i,h2⟩:=T.ex
 intro pins s s1 σ H H' D e cls cx I G q
 exact N5 hg hm hE hR hg2 (QH I.mod.kin T.g h1) h2 hd hd2 pins s s1 σ H H' D e cls cx I G q
end
section
variable {P:Program}{w:World}{K:Frag}{mg:Str->Option Value}{base:Heap}
theorem NJ{t:bH}{H:Hp}{as:List Addr}{l:List Thing}(h:aL t H as l):L6 Ih l (l.map (nums 9)):=by
 have:∀ l:List Thing,(∀ x∈l,fits 9 x=true)->L6 Ih l (l.map (nums 9)):=by
  intro l
  induction l with
  | nil=>intro _;exact .nil
  | cons x r ih=>intro hh;exact .cons ⟨9,hh x (by simp),rfl⟩ (ih fun y hy=>hh y (by simp [hy]))
 refine this l fun x hx=>?_
 obtain ⟨i,hi⟩:=List.mem_iff_getElem?.mp hx
 obtain ⟨a,_,h2⟩:=h.get' hi
 exact h2.fits
theorem Nf(l:List Thing):(l.map (nums 9)).flatten=l.flatMap (nums 9):=by rw [List.flatMap_def]
theorem E3{t:bH}{H:Hp}{as:List Addr}{l:List Thing}(h:aL t H as l):xW ((l.length:Int)::l.flatMap (nums 9))=if l.all (right 8)=true then some l else none:=by
 have:=Lu (NJ h)
 rw [Nf] at this
 exact this
theorem wW{l:List Thing}(h:l.all (fits 8)=true):(l.length:Int)::l.flatMap (nums 9)=told l:=by
 have e2:listNums (nums 8) l=listNums (nums 9) l:=gE h fun t ht=>(gJ 8 t ht).2.symm
 exact e2.symm
inductive y_(t:bH)(K:Frag)(vs:List V)(H:Hp)(Q:VK)(E:XK):Prop
 | mk:∀ (la:Addr) (as:List Addr) (l:List Thing),vs=[.ref la]->cT K H la (as.map V.ref)->aL t H as l->gA l<4000000->(l.all (right 8)=true->∀ H',aK H H'->Q .eX H')->(l.all (right 8)=false->∀ H' e,aK H H'->E (.ref t.fK) (some e) H')->y_ t K vs H Q E
theorem qH{t:bH}(T:b7 K mg t):bL P w K mg base (nG P w) 33 t.iL.f t.iL.fd ["things"] (y_ t K):=by
 refine T.iL.F.C_ Gr (fun vs H Q E h=>?_) (fun cdv A outer s H vs Q E hr h=>?_)
 ·obtain ⟨la,as,l,rfl,_⟩:=h
  rfl
 ·obtain ⟨la,as,l,rfl,hL,hT,hz,q,qe⟩:=h
  refine ⟨_,aE (O7 Ec (fun pn W E' hp=>aE (bJ (Ea (sF T) hr.m rfl T.hZ.m T.hZ.F.kp T.hZ.b .nil hp (aA (Ea (eA T) hr.m rfl T.cM.m T.cM.F.kp T.cM.b .nil aV (aA (pv 0) aF)) aF)))) (NG rfl T.cC.g EA eG rfl T.fK)),?_⟩
  refine ⟨_,rfl,la,as,l,rfl,hL,hT,by omega,fun nl nnl=>?_⟩
  have s1:∀ o,aK H (a6 H nl o):=fun o=>aK.new nnl
  refine ⟨nl,(l.length:Int)::l.flatMap (nums 9),rfl,.inl aD,?_,fun hn H' s2=>?_,fun l' hl lb bs H' s2 _ _ _=>?_⟩
  ·have hlen:=nX (l:=l) (all_eq_true.mpr fun y hy=>by
    obtain ⟨i,hi⟩:=List.mem_iff_getElem?.mp hy
    obtain ⟨a,_,h2⟩:=hT.get' hi
    exact h2.fits)
   rw [length_cons];show gA l+1<=_;omega
  ·rw [E3 hT] at hn
   have hb:l.all (right 8)=false:=by
    cases h:l.all (right 8) with
    | false=>rfl
    | true=>rw [if_pos h] at hn;cases hn
   exact fun σ'=>⟨T.k_,rfl,fun ea=>qe hb H' ea ((s1 _).trans s2)⟩
  ·rw [E3 hT] at hl
   have hb:l.all (right 8)=true:=by
    cases h:l.all (right 8) with
    | true=>rfl
    | false=>rw [h,if_neg (by decide)] at hl;cases hl
   exact q hb H' ((s1 _).trans s2)
inductive MJ(t:bH)(K:Frag)(vs:List V)(H:Hp)(Q:VK)(E:XK):Prop
 | mk:∀ (la:Addr) (as:List Addr) (l:List Thing),vs=[.ref la]->cT K H la (as.map V.ref)->aL t H as l->gA l<4000000->(SgSpec.keeps l=true->∀ H',aK H H'->Q (.ref la) H')->(SgSpec.keeps l=false->∀ H' e,aK H H'->E (.ref t.fK) e H')->MJ t K vs H Q E
theorem D3{t:bH}(T:b7 K mg t):bL P w K mg base (nG P w) 34 t.kept.f t.kept.fd ["column"] (MJ t K):=by
 refine T.kept.F.C_ Qh (fun vs H Q E h=>?_) (fun cdv A outer s H vs Q E hr h=>?_)
 ·obtain ⟨la,as,l,rfl,_⟩:=h
  rfl
 ·obtain ⟨la,as,l,rfl,hL,hT,hz,q,qe⟩:=h
  refine ⟨_,(aB (a_ (tc sP (ln T.f_ (cf (eA T) T.cM hr aV (aA (pv 0) aF))) (aW T.Kv)) (aE (dQ eG hr.hd rfl T.fK)) aR) (aB (bJ (cf (qH T) T.iL hr aX (aA (pv 0) aF))) (aE (aM (pv 0))))),?_⟩
  refine ⟨_,rfl,la,as,l,rfl,hL,hT,by omega,fun nl nnl=>?_⟩
  have s1:∀ o,aK H (a6 H nl o):=fun o=>aK.new nnl
  refine ⟨nl,_,rfl,.inl (cT.of aD),_,_,rfl,rfl,_,rfl,aQ (fun z=>?_) fun z=>?_⟩
  ·have z:=of_decide_eq_true z
   rw [length_map,length_cons] at z
   refine qe ?_ _ none (s1 _)
   unfold SgSpec.keeps
   cases h:l.all (right DEEP) with
   | false=>rfl
   | true =>
    rw [Bool.true_and,decide_eq_false_iff_not,<-wW (c8 h),length_cons]
    show ¬ _<=2000
    omega
  have z:=of_decide_eq_false z
  rw [length_map,length_cons] at z
  refine ⟨_,rfl,la,as,l,rfl,(s1 _).seq hL,hT.fix (s1 _).fix,hz,fun hb H' s2=>⟨_,rfl,q ?_ H' ((s1 _).trans s2)⟩,fun hb H' e s2=>qe ?_ H' (some e) ((s1 _).trans s2)⟩
  ·unfold SgSpec.keeps
   have hb':l.all (right DEEP)=true:=hb
   rw [hb',Bool.true_and,decide_eq_true_eq,<-wW (c8 hb'),length_cons]
   show _<=2000
   omega
  ·unfold SgSpec.keeps
   have hb':l.all (right DEEP)=false:=hb
   rw [hb',Bool.false_and]
def JK(K:Frag)(H:Hp)(a:Addr)(xs:List V):Prop:=Fz H a xs\/∃ (o:Obj) (its:Array Value) (n:Nat),K.lookup a=some o/\o.cls=.type "list"/\o.dict=none/\o.data=.seq its n/\its.size<=sizeLine/\b9 xs its.toList
theorem JK.sq{K:Frag}{H:Hp}{a:Addr}{xs:List V}(h:JK K H a xs):cT K H a xs:=h.imp (fun z=>z.rd) id
theorem JK.fix{K:Frag}{t:bH}{H H':Hp}{a:Addr}{xs:List V}(h:JK K H a xs)(f:iV t H H'):JK K H' a xs:=h.imp (fun z=>z.fix f) id
def clF(nl:Addr)(k:Nat):List (Str×V):=[("numbers",.ref nl),("place",.int (k:Int))]
structure cD(t:bH)(K:Frag)(H:Hp)(c dx nl:Addr)(ns:List Int)(k:Nat):Prop where
 obj:H c=some (.ins t.iX dx (clF nl k))
 nums:JK K H nl (ns.map V.int)
 len:ns.length<=1000000
theorem b7.uN{t:bH}(T:b7 K mg t){dx:Addr}{fs:List (Str×V)}:¬ oU t (.ins t.iX dx fs):=CJ (Ne.symm T.Fe) (Ne.symm T.Er) (Ne.symm T.xO)
inductive yT(t:bH)(K:Frag)(vs:List V)(H:Hp)(Q:VK)(E:XK):Prop
 | mk:∀ (p dx nl:Addr) (ns:List Int),vs=[.ref p,.ref nl]->H p=some (.ins t.iX dx [])->JK K H nl (ns.map V.int)->ns.length<=1000000->(∀ H',bG [p] H H'->cD t K H' p dx nl ns 0->Q .eX H')->yT t K vs H Q E
theorem GS{t:bH}(T:b7 K mg t):bL P w K mg base hJ 1 t.bM.f t.bM.fd ["self","numbers"] (yT t K):=by
 refine T.bM.F.ok Gu (fun vs H Q E h=>?_) (fun cdv A outer s H vs Q E hr h=>?_)
 ·obtain ⟨p,dx,nl,ns,rfl,_⟩:=h
  rfl
 ·obtain ⟨p,dx,nl,ns,rfl,hp,hN,hl,q⟩:=h
  refine ⟨_,(aB (bT T.bM.cl T.lP (pv 0) (pv 1)) (aE (bT T.bM.cl T.eV (pv 0) aG))),?_⟩
  refine ⟨_,rfl,_,rfl,p,dx,_,rfl,hp,sm 0,_,rfl,p,dx,_,rfl,aD,sm 1,?_⟩
  rw [bU]
  exact q _ (bG.chg (by simp)) ⟨aD,hN.fix (iV.chg hp T.uN),hl⟩
theorem cD.move{t:bH}(T:b7 K mg t){H:Hp}{c dx nl:Addr}{ns:List Int}{k:Nat}(C:cD t K H c dx nl ns k)(k':Nat):cD t K (a6 H c (.ins t.iX dx (clF nl k'))) c dx nl ns k':=⟨aD,C.nums.fix (iV.chg C.obj T.uN),C.len⟩
theorem cD.same{t:bH}{H H':Hp}{c dx nl:Addr}{ns:List Int}{k:Nat}(C:cD t K H c dx nl ns k)(s:aK H H'):cD t K H' c dx nl ns k:=⟨s _ _ C.obj,C.nums.fix (t:=t) s.fix,C.len⟩
inductive mC(t:bH)(K:Frag)(vs:List V)(H:Hp)(Q:VK)(E:XK):Prop
 | mk:∀ (c dx nl:Addr) (ns:List Int) (k:Nat) (x:Int) (r:List Int),vs=[.ref c]->cD t K H c dx nl ns k->ns.drop k=x::r->(∀ H',bG [c] H H'->cD t K H' c dx nl ns (k+1)->Q (.int x) H')->mC t K vs H Q E
theorem bX{t:bH}(T:b7 K mg t):bL P w K mg base hJ 1 t.aY.f t.aY.fd ["self"] (mC t K):=by
 refine T.aY.F.ok mF (fun vs H Q E h=>?_) (fun cdv A outer s H vs Q E hr h=>?_)
 ·obtain ⟨c,dx,nl,ns,k,x,r,rfl,_⟩:=h
  rfl
 ·obtain ⟨c,dx,nl,ns,k,x,r,rfl,C,e,q⟩:=h
  refine ⟨_,(aB (sv 1 mF.nd (ix (aZ T.bM.cl T.lP (pv 0)) (aZ T.bM.cl T.eV (pv 0)))) (aB (gL T.bM.cl T.eV (pv 0) aG m9) (aE (aM (pv 1))))),?_⟩
  have hx:ns[k]?=some x:=by
   have:=congrArg (fun l=>l[0]?) e
   simpa [List.getElem?_drop] using this
  refine ⟨_,rfl,c,dx,_,_,rfl,C.obj,rfl,_,rfl,c,dx,_,_,rfl,C.obj,rfl,nl,_,_,_,rfl,rfl,C.nums.sq,b6 (v:=.int x) (by rw [getElem?_map,hx];rfl),?_⟩
  refine ⟨_,rfl,c,dx,_,_,rfl,C.obj,rfl,_,_,rfl,rfl,dx,_,C.obj,sm 2,_,rfl,?_⟩
  exact q _ (bG.chg (by simp)) (C.move T (k+1))
theorem j0{ns:List Int}{k:Nat}{x:Int}{r:List Int}(e:ns.drop k=x::r):ns.drop (k+1)=r:=by
 have:=congrArg List.tail e
 rw [List.tail_drop] at this
 exact this
theorem K3{ns:List Int}{k:Nat}{x t:List Int}(e:ns.drop k=x++t)(h:k<=ns.length):k+x.length<=ns.length/\ns.drop (k+x.length)=t:=by
 have h1:=congrArg List.length e
 rw [length_append,length_drop] at h1
 refine ⟨by omega,?_⟩
 rw [<-List.drop_drop,e,List.drop_left]
inductive pY(t:bH)(K:Frag)(vs:List V)(H:Hp)(Q:VK)(E:XK):Prop
 | mk:∀ (c dx nl:Addr) (ns:List Int) (k:Nat) (x r:List Int),vs=[.ref c]->cD t K H c dx nl ns k->ns.drop k=(x.length:Int)::(x++r)->(∀ H' la,bG [c] H H'->H la=none->H' la=some (.lst (x.map V.int))->cD t K H' c dx nl ns (k+1+x.length)->Q (.ref la) H')->pY t K vs H Q E
theorem iH{t:bH}(T:b7 K mg t):bL P w K mg base hJ 2 t.cA.f t.cA.fd ["self"] (pY t K):=by
 refine T.cA.F.ok kU (fun vs H Q E h=>?_) (fun cdv A outer s H vs Q E hr h=>?_)
 ·obtain ⟨c,dx,nl,ns,k,x,r,rfl,_⟩:=h
  rfl
 ·obtain ⟨c,dx,nl,ns,k,x,r,rfl,C,e,q⟩:=h
  refine ⟨_,(aB (sv 1 kU.nd (dN (pv 0) T.bM.cl T.aY.m (bX T) hr.m T.aY.b .nil aV)) (aB (sv 2 kU.nd (eF gB (aZ T.bM.cl T.lP (pv 0)) (dM (aZ T.bM.cl T.eV (pv 0))) (dM (bW iK (aZ T.bM.cl T.eV (pv 0)) (pv 1))))) (aB (gL T.bM.cl T.eV (pv 0) (pv 1) m9) (aE (aM (pv 2)))))),?_⟩
  refine ⟨_,rfl,c,dx,_,rfl,C.obj,rfl,c,dx,nl,ns,k,_,_,rfl,C,e,fun H1 u1 C1=>?_⟩
  have e1:=j0 e
  have hk:k<ns.length:=by
   have:=congrArg List.length e
   rw [length_drop,length_cons] at this;omega
  obtain ⟨h1,h2⟩:=K3 e1 (by omega)
  refine ⟨_,rfl,c,dx,_,_,rfl,C1.obj,rfl,_,rfl,c,dx,_,_,rfl,C1.obj,rfl,_,rfl,_,rfl,c,dx,_,_,rfl,C1.obj,rfl,_,rfl,_,_,rfl,rfl,_,rfl,nl,_,rfl,C1.nums.sq,fun la nla=>?_⟩
  have ec:jB (ns.map V.int) (some ((k+1:Nat):Int)) (some (((k+1:Nat):Int)+(x.length:Int)))=x.map V.int:=by
   rw [show ((k+1:Nat):Int)+(x.length:Int)=((k+1+x.length:Nat):Int) from rfl,w9 _ _ _ (by rw [length_map];exact h1) (by omega),<-List.map_drop,<-List.map_take,e1,Nat.add_sub_cancel_left,List.take_left]
  rw [ec]
  have s2:∀ o,aK H1 (a6 H1 la o):=fun o=>aK.new nla
  have C2:=C1.same (s2 (.lst (x.map V.int)))
  refine ⟨_,rfl,c,dx,_,_,rfl,C2.obj,rfl,_,rfl,_,_,rfl,rfl,dx,_,C2.obj,sm 2,_,rfl,?_⟩
  have nlc:la≠c:=Ne.symm (aH C1.obj nla)
  refine q _ la ((u1.trans (s2 (.lst (x.map V.int))).fC).trans (bG.chg (by simp))) (u1.free C1.obj nla) ?_ (C2.move T (k+1+x.length))
  rw [aJ nlc,aD]
structure PrA where
 a:Addr
 dx:Addr
 cl:Addr
 av:Addr
def prF(bC cl col:Addr)(mark:Int)(pg sh:Addr):List (Str×V):=[("style",.ref bC),("classes",.ref cl),("column",.ref col),("last_mark",.int mark),("last_page",.ref pg),("last_shares",.ref sh)]
structure PressC(t:bH)(H:Hp)(g:PrA)(st:State)(n:Nat)(bC col pg sh:Addr)(as ps:List Addr)(kvs:List (fY×V)):Prop where
 AX:kI t H bC st.style
 xcl:H g.cl=some (.dK kvs)
 cld:EF t H kvs st.style
 kn:kvs.length<=n
 mW:H col=some (.lst (as.map V.ref))
 l_:aL t H as st.column
 xpg:H pg=some (.lst (ps.map V.ref))
 pgT:aL t H ps st.page
 xsh:KW t H g.av sh st.classes
 DH:sh≠g.cl
 nav:col≠g.av/\pg≠g.av
structure fB(t:bH)(H:Hp)(g:PrA)(st:State)(n:Nat)(bC col pg sh:Addr)(as ps:List Addr)(kvs:List (fY×V)):Prop extends PressC t H g st n bC col pg sh as ps kvs where
 obj:H g.a=some (.ins t.cR g.dx (prF bC g.cl col (markNum st.before) pg sh))
def cQ(t:bH)(H:Hp)(g:PrA)(st:State)(n:Nat):Prop:=∃ bC col pg sh as ps kvs,fB t H g st n bC col pg sh as ps kvs
theorem b7.mO{t:bH}(T:b7 K mg t){dx:Addr}{fs:List (Str×V)}:¬ oU t (.ins t.cR dx fs):=CJ (Ne.symm T.Ex) (Ne.symm T.E7) (Ne.symm T.xK)
section
variable {t:bH}{H H':Hp}{g:PrA}{st:State}{n:Nat}{bC col pg sh:Addr}{as ps:List Addr}{kvs:List (fY×V)}
theorem PressC.keep(C:PressC t H g st n bC col pg sh as ps kvs)(f:iV t H H')(kl:∀ b xs,H b=some (.lst xs)->H' b=some (.lst xs))(kd:∀ b xs,H b=some (.dK xs)->H' b=some (.dK xs)):PressC t H' g st n bC col pg sh as ps kvs:=by
 refine ⟨C.AX.fix f,kd _ _ C.xcl,C.cld.fix f,C.kn,kl _ _ C.mW,C.l_.fix f,kl _ _ C.xpg,C.pgT.fix f,?_,C.DH,C.nav⟩
 obtain ⟨xs,h1,h2,h3,h4⟩:=C.xsh
 exact ⟨xs,kd _ _ h1,h2,h3,fun x hx=>⟨kl _ _ (h4 x hx).1,(h4 x hx).2.1.fix f,(h4 x hx).2.2⟩⟩
theorem PressC.same(C:PressC t H g st n bC col pg sh as ps kvs)(s:aK H H'):PressC t H' g st n bC col pg sh as ps kvs:=C.keep s.fix (fun b xs e=>s _ _ e) fun b xs e=>s _ _ e
theorem fB.same(C:fB t H g st n bC col pg sh as ps kvs)(s:aK H H'):fB t H' g st n bC col pg sh as ps kvs:={ C.toPressC.same s with obj:=s _ _ C.obj }
theorem cQ.same(h:cQ t H g st n)(s:aK H H'):cQ t H' g st n:=let ⟨bC,col,pg,sh,as,ps,kvs,C⟩:=h;⟨bC,col,pg,sh,as,ps,kvs,C.same s⟩
theorem PressC.ins(C:PressC t H g st n bC col pg sh as ps kvs){b C0 dx:Addr}{fs:List (Str×V)}(hb:H b=some (.ins C0 dx fs))(nc:¬ oU t (.ins C0 dx fs))(u:bG [b] H H'):PressC t H' g st n bC col pg sh as ps kvs:=by
 refine C.keep (u.fix fun c hc o e=>by simp at hc;subst hc;rw [hb] at e;cases e;exact nc) (fun c xs e=>u _ _ e ?_) fun c xs e=>u _ _ e ?_
 ·simp;exact cX e hb nofun
 ·simp;exact cX e hb nofun
theorem PressC.mono(C:PressC t H g st n bC col pg sh as ps kvs){n':Nat}(h:n<=n'):PressC t H g st n' bC col pg sh as ps kvs:=⟨C.AX,C.xcl,C.cld,Nat.le_trans C.kn h,C.mW,C.l_,C.xpg,C.pgT,C.xsh,C.DH,C.nav⟩
theorem fB.mono(C:fB t H g st n bC col pg sh as ps kvs){n':Nat}(h:n<=n'):fB t H g st n' bC col pg sh as ps kvs:={ C.toPressC.mono h with obj:=C.obj }
theorem cQ.mono(h:cQ t H g st n){n':Nat}(hn:n<=n'):cQ t H g st n':=let ⟨bC,col,pg,sh,as,ps,kvs,C⟩:=h;⟨bC,col,pg,sh,as,ps,kvs,C.mono hn⟩
theorem fB.calls(T:b7 K mg t)(C:fB t H g st n bC col pg sh as ps kvs){c dx:Addr}{fs:List (Str×V)}(hc:H c=some (.ins t.iX dx fs))(u:bG [c] H H'):fB t H' g st n bC col pg sh as ps kvs:=by
 refine { C.toPressC.ins hc T.uN u with obj:=u _ _ C.obj ?_ }
 simp
 intro z
 rw [<-z,C.obj] at hc
 have:=(HO.ins.inj (Option.some.inj hc)).1
 first|exact T.Fs this|exact T.ne_Calls_Press this.symm
end
structure G7(st:State):Prop where
 style:dI st.style
 col:i_ st.column
 page:st.page.all (right 8)=true/\gA st.page<=100000
 cls:∀ x∈st.classes,x.2.all (right 8)=true/\gA x.2<=100000
def Qz(t:bH):Nat->Addr
 | 1=>t.c6
 | 3=>t.cC
 | 4=>t.fE
 | _=>t.fK
structure rO(t:bH)(K:Frag)(H:Hp)(g:PrA)(c dxc nl:Addr)(ns:List Int)(k' n:Nat)(res:State×Answer)(Q:VK)(E:XK):Prop where
 nums:∀ l,res.2=.nums l->∀ H' q,bG [g.a,g.cl,c] H H'->cQ t H' g res.1 n->cD t K H' c dxc nl ns k'->H q=none->H' q=some (.lst (l.map V.int))->Q (.ref q) H'
 refused:∀ z,res.2=.refused z->∀ H' e,bG [g.a,g.cl,c] H H'->cQ t H' g res.1 n->cD t K H' c dxc nl ns k'->E (.ref (Qz t z)) e H'
structure q0(t:bH)(K:Frag)(H:Hp)(g:PrA)(c dxc nl:Addr)(ns:List Int)(k n:Nat)(st:State):Prop where
 av:∃ xs,H g.av=some (.lst xs)
 pr:cQ t H g st n
 ok:G7 st
 ca:cD t K H c dxc nl ns k
 nc:c≠g.a
inductive yW(t:bH)(K:Frag)(vs:List V)(H:Hp)(Q:VK)(E:XK):Prop
 | mk:∀ (p dx:Addr),vs=[.ref p]->H p=some (.ins t.cR dx [])->(∀ H' cl,bG [p] H H'->H cl=none->(∃ o,H' p=some o)->(∀ av,H' av=none->cQ t H' ⟨p,dx,cl,av⟩ SgSpec.start 0)->Q .eX H')->yW t K vs H Q E
theorem F_{t:bH}(T:b7 K mg t):bL P w K mg base hJ 4 t.aU.f t.aU.fd ["self"] (yW t K):=by
 refine T.aU.F.ok GI (fun vs H Q E h=>?_) (fun cdv A outer s H vs Q E hr h=>?_)
 ·obtain ⟨p,dx,rfl,_⟩:=h
  rfl
 ·obtain ⟨p,dx,rfl,hp,q⟩:=h
  refine ⟨_,(aB (bT T.aU.cl T.e_ (pv 0) (cz (ES T) T.j5 hr aV)) (aB (bT T.aU.cl T.eS (pv 0) Br) (aB (bT T.aU.cl T.bF (pv 0) (bR aF)) (aB (bT T.aU.cl T.jO (pv 0) (aW T.M8)) (aB (bT T.aU.cl T.jT (pv 0) (bR aF)) (aE (bT T.aU.cl T.fR (pv 0) Br))))))),?_⟩
  refine ⟨rfl,fun bC H1 s1 nsty hS=>⟨_,rfl,p,dx,_,rfl,s1 _ _ hp,sm 0,?_⟩⟩
  generalize e2:a6 H1 p _=H2
  have u2:bG [p] H H2:=e2▸s1.fC.trans (bG.chg (by simp))
  have f2:iV t H1 H2:=e2▸iV.chg (s1 _ _ hp) T.mO
  have o2:H2 p=some _:=e2▸aD
  refine fun cl ncl=>⟨_,rfl,p,dx,_,rfl,aK.new ncl _ _ o2,sm 1,?_⟩
  generalize e3:a6 (a6 H2 cl _) p _=H3
  have np1:cl≠p:=Ne.symm (aH o2 ncl)
  have u3:bG [p] H2 H3:=e3▸(aK.new ncl).fC.trans (bG.chg (by simp))
  have o3:H3 p=some _:=e3▸aD
  have c3:H3 cl=some (.dK []):=by rw [<-e3,aJ np1,aD]
  refine ⟨Nat.zero_le _,fun col ncol=>⟨_,rfl,p,dx,_,rfl,aK.new ncol _ _ o3,sm 2,?_⟩⟩
  refine ⟨_,rfl,p,dx,_,rfl,aD,sm 3,?_⟩
  rw [bU]
  generalize e4:a6 (a6 H3 col _) p _=H4
  have np2:col≠p:=Ne.symm (aH o3 ncol)
  have u4:bG [p] H3 H4:=e4▸(aK.new ncol).fC.trans (bG.chg (by simp))
  have o4:H4 p=some _:=e4▸aD
  have l4:H4 col=some (.lst []):=by rw [<-e4,aJ np2,aD]
  refine ⟨Nat.zero_le _,fun pg npg=>⟨_,rfl,p,dx,_,rfl,aK.new npg _ _ o4,sm 4,?_⟩⟩
  generalize e5:a6 (a6 H4 pg _) p _=H5
  have np3:pg≠p:=Ne.symm (aH o4 npg)
  have u5:bG [p] H4 H5:=e5▸(aK.new npg).fC.trans (bG.chg (by simp))
  have o5:H5 p=some _:=e5▸aD
  have l5:H5 pg=some (.lst []):=by rw [<-e5,aJ np3,aD]
  refine fun sh DH=>⟨_,rfl,p,dx,_,rfl,aK.new DH _ _ o5,sm 5,?_⟩
  generalize e6:a6 (a6 H5 sh _) p _=H6
  have np4:sh≠p:=Ne.symm (aH o5 DH)
  have u6:bG [p] H5 H6:=e6▸(aK.new DH).fC.trans (bG.chg (by simp))
  have o6:H6 p=some _:=e6▸aD
  have d6:H6 sh=some (.dK []):=by rw [<-e6,aJ np4,aD]
  have v5:bG [p] H2 H5:=u3.trans (u4.trans u5)
  have v6:bG [p] H2 H6:=v5.trans u6
  have c5:=u5 _ _ (u4 _ _ c3 (by simpa using np1)) (by simpa using np1)
  have fx:iV t H2 H6:=v6.fix fun b hb o e=>by simp at hb;subst hb;rw [o2] at e;cases e;exact T.mO
  have uu:bG [p] H H6:=u2.trans v6
  have nclH:H cl=none:=u2.free o2 ncl
  refine q H6 cl uu nclH ⟨_,o6⟩ fun av nav=>⟨bC,col,pg,sh,[],[],[],{ AX:=?_,xcl:=u6 _ _ c5 (by simpa using np1),cld:=⟨fun c v e=>(by cases e),fun c _=>rfl⟩,kn:=Nat.le_refl _,mW:=u6 _ _ (u5 _ _ l4 (by simpa using np2)) (by simpa using np2),l_:=aL.nil,xpg:=u6 _ _ l5 (by simpa using np3),pgT:=aL.nil,xsh:=⟨[],d6,rfl,List.nodup_nil,fun x hx=>nomatch hx⟩,DH:=?_,nav:=?_,obj:=o6 }⟩
  ·exact ((hS _).fix f2).fix fx
  ·exact Ne.symm (aH c5 DH)
  ·exact ⟨aH (u6 _ _ (u5 _ _ l4 (by simpa using np2)) (by simpa using np2)) nav,aH (u6 _ _ l5 (by simpa using np3)) nav⟩
theorem LG:G7 SgSpec.start:=⟨⟨by decide,by decide,by decide,by decide,fun x hx=>nomatch hx⟩,⟨rfl,by decide⟩,⟨rfl,by decide⟩,fun x hx=>nomatch hx⟩
theorem An{x:List Int}(h:lW x=true):∃ g,glueAll x=some g/\x=glueNums g/\glueOk g=true:=by
 have h5:x.length=5:=by
  by_cases e:x.length=5
  ·exact e
  ·rw [wD e] at h;cases h
 have et:x.take 5=x:=List.take_of_length_le (by omega)
 have em:=wZ x
 rw [et,if_pos h,List.drop_of_length_le (by omega)] at em
 obtain ⟨h1,h2⟩:=q_.mp em
 refine ⟨_,?_,?_,h2⟩
 ·unfold glueAll
  rw [h1]
  show (if glueOk _=true then _ else _)=_
  rw [if_pos h2]
 ·match x,h5 with
  | [a,b,c,d,e],_ =>
   have h':((isLen a&&(isLen b&&isLen d))&&((decide (0<=c)&&decide (c<=3))&&(decide (0<=e)&&decide (e<=3))))=true:=h
   simp only [Bool.and_eq_true,decide_eq_true_eq] at h'
   simp [glueNums]
   omega
theorem BP{x:List Int}(h:lW x=false):glueAll x=none:=by
 unfold glueAll
 split
 ·rename_i g hg
  by_cases ho:glueOk g=true
  ·exfalso
   have em:=q_.mpr ⟨hg,ho⟩
   rw [wZ] at em
   split at em
   ·rename_i h1
    have hd:=(Prod.mk.inj (Option.some.inj em)).2
    have:x.length<=5:=by
     have:=congrArg List.length hd
     rw [length_drop] at this
     simp at this;omega
    rw [List.take_of_length_le this,h] at h1;cases h1
   ·cases em
  ·rw [if_neg ho]
 ·rfl
theorem EF.congr{t:bH}{H:Hp}{kvs:List (fY×V)}{s s':SgPage.Style}(h:EF t H kvs s)(e:s'.classes=s.classes):EF t H kvs s':=by
 have ec:∀ c,classOf s' c=classOf s c:=fun c=>by unfold classOf;rw [e]
 exact ⟨fun c v hv=>by rw [ec];exact h.at_ c v hv,fun c hv=>by rw [ec];exact h.no c hv⟩
inductive yR(t:bH)(K:Frag)(vs:List V)(H:Hp)(Q:VK)(E:XK):Prop
 | mk:∀ (g:PrA) (c dxc nl:Addr) (ns:List Int) (k n:Nat) (st:State) (h m:Int) (x r:List Int),vs=[.ref g.a,.ref c]->q0 t K H g c dxc nl ns k n st->ns.drop k=h::m::(x.length:Int)::(x++r)->rO t K H g c dxc nl ns (k+3+x.length) (n+1) (SgSpec.step st (.style h m x)) Q E->yR t K vs H Q E
theorem G8{t:bH}(T:b7 K mg t):bL P w K mg base (nG P w) 10 t.lG.f t.lG.fd ["press","told"] (yR t K):=by
 refine T.lG.F.C_ lT (fun vs H Q E h=>?_) (fun cdv A outer s H vs Q E hr h=>?_)
 ·obtain ⟨g,c,dxc,nl,ns,k,n,st,hh,m,x,r,rfl,_⟩:=h
  rfl
 ·obtain ⟨g,c,dxc,nl,ns,k,n,st,hh,m,x,r,rfl,B,e0,O⟩:=h
  refine ⟨_,(aB (sv 2 lT.nd (dN (pv 1) T.bM.cl T.aY.m (bX T) hr.m T.aY.b .nil aV)) (aB (sv 3 lT.nd (dN (pv 1) T.bM.cl T.aY.m (bX T) hr.m T.aY.b .nil aV)) (aB (sv 4 lT.nd (dN (pv 1) T.bM.cl T.cA.m (iH T) hr.m T.cA.b .nil aV)) (aB (a_ (PW.pt (kX (jC (c2 (cf (i7 T) T.gK hr aV (aA (pv 2) aF)))) (kX (jC (c2 (cf (i7 T) T.gK hr aV (aA (pv 3) aF)))) (kX (tc nA (pv 3) aG) (jD (jC (c2 (cf (oR T) T.gQ hr aV (aA (pv 4) aF))))))))) (aE (dQ eG hr.hd rfl T.c6)) aR) (aB (bT T.aU.cl T.e_ (pv 0) (cn (yL T) T.dF hr (aA (pv 2) (aA (pv 3) (aA (pv 4) aF))))) (aE (aM (bR (aA aG aF))))))))),?_⟩
  obtain ⟨bC,col,pg,sh,as,ps,kvs,C0⟩:=B.pr
  refine ⟨_,rfl,c,dxc,_,rfl,B.ca.obj,rfl,c,dxc,nl,ns,k,hh,_,rfl,B.ca,e0,fun H1 u1 C1=>?_⟩
  have e1:=j0 e0
  refine ⟨_,rfl,c,dxc,_,rfl,C1.obj,rfl,c,dxc,nl,ns,k+1,m,_,rfl,C1,e1,fun H2 u2 C2=>?_⟩
  have e2:=j0 e1
  refine ⟨_,rfl,c,dxc,_,rfl,C2.obj,rfl,c,dxc,nl,ns,k+2,x,r,rfl,C2,e2,fun H3 la u3 nla f3 C3=>?_⟩
  have w3:bG [c] H H3:=(u1.trans u2).trans u3
  have P3:=C0.calls T B.ca.obj w3
  have W3:bG [g.a,g.cl,c] H H3:=w3.mono (by simp)
  have C3':cD t K H3 c dxc nl ns (k+3+x.length):=by
   have:k+2+1+x.length=k+3+x.length:=by omega
   rw [this] at C3;exact C3
  have bad:(∀ g',¬ (glueAll x=some g'/\isLen hh=true/\isLen m=true/\0<=m))->E (.ref t.c6) none H3:=by
   intro hb
   have es:SgSpec.step st (.style hh m x)=(st,SgSpec.no 1):=by
    show (match glueAll x with
     | none=>(st,SgSpec.no 1)
     | some g=>_)=_
    cases e:glueAll x with
    | none=>rfl
    | some g' =>
     show (if _ then _ else _)=_
     rw [if_neg (fun z=>hb g' ⟨e,z⟩)]
   rw [es] at O
   exact O.refused 1 rfl H3 none W3 ⟨bC,col,pg,sh,as,ps,kvs,P3.mono (by omega)⟩ C3'
  refine ⟨_,rfl,hh,rfl,_,rfl,aQ (fun z=>oB ?_) fun z=>⟨_,rfl,m,rfl,_,rfl,aQ (fun z2=>oB ?_) fun z2=>⟨_,rfl,_,_,rfl,rfl,_,rfl,aQ (fun z3=>oB ?_) fun z3=>⟨_,rfl,la,x,rfl,cT.of f3,_,rfl,aQ (fun z4=>?_) fun z4=>?_⟩⟩⟩⟩
  ·exact bad fun g' q=>by rw [q.2.1] at z;cases z
  ·exact bad fun g' q=>by rw [q.2.2.1] at z2;cases z2
  ·exact bad fun g' q=>by have:=of_decide_eq_true z3;omega
  ·exact bad fun g' q=>by rw [BP (by simpa using z4)] at q;cases q.1
  have z:isLen hh=true:=by simpa using z
  have z2:isLen m=true:=by simpa using z2
  have z3:0<=m:=by have:=of_decide_eq_false z3;omega
  have z4:lW x=true:=by simpa using z4
  obtain ⟨gg,y1,y2,y3⟩:=An z4
  have es:SgSpec.step st (.style hh m x)=({ st with style:=⟨hh,m,gg,st.style.classes⟩ },SgSpec.one 0):=by
   show (match glueAll x with
    | none=>(st,SgSpec.no 1)
    | some g=>_)=_
   rw [y1]
   show (if _ then _ else _)=_
   rw [if_pos ⟨z,z2,z3⟩]
  rw [es] at O
  refine ⟨_,rfl,_,rfl,_,rfl,fun p dx np nd ne=>?_⟩
  have sd:aK H3 (a6 (a6 H3 dx (.own p)) p (.ins t.iB dx [])):=(aK.new nd).trans (aK.new (by rw [aJ (Ne.symm ne)];exact np))
  refine ⟨p,dx,la,hh,m,gg,rfl,aD,by rw [sd _ _ f3,y2];rfl,fun H4 u4 S4=>⟨rfl,?_⟩⟩
  have nlaH:H la=none:=by
   have:=(u1.trans u2).free C2.obj nla
   exact this
  have k4:∀ b o,H3 b=some o->b≠la->H4 b=some o:=fun b o e n=>u4 b o (sd _ _ e) (by simp only [mem_cons,not_mem_nil,or_false,not_or];exact ⟨aH e np,n⟩)
  have fx4:iV t H3 H4:=fun b o cc e=>k4 b o e fun zz=>by subst zz;rw [f3] at e;cases e;exact kY cc
  have kH:∀ b o,H3 b=some o->H b≠none->H4 b=some o:=fun b o e hb=>k4 b o e fun zz=>hb (zz▸nlaH)
  have P4:PressC t H4 g st n bC col pg sh as ps kvs:=by
   have hl:∀ {b:Addr} {o:HO},H b=some o->H3 b=some o->H4 b=some o:=fun e e3=>kH _ _ e3 (by rw [e];simp)
   refine ⟨P3.AX.fix fx4,hl C0.xcl P3.xcl,P3.cld.fix fx4,P3.kn,hl C0.mW P3.mW,P3.l_.fix fx4,hl C0.xpg P3.xpg,P3.pgT.fix fx4,?_,P3.DH,P3.nav⟩
   obtain ⟨xs,h1,h2,h3,h4⟩:=C0.xsh
   obtain ⟨xs',h1',h2',h3',h4'⟩:=P3.xsh
   refine ⟨xs,hl h1 (W3 _ _ h1 ?_),h2,h3,fun y hy=>?_⟩
   ·simp only [mem_cons,not_mem_nil,or_false,not_or]
    exact ⟨cX h1 C0.obj nofun,C0.DH,cX h1 B.ca.obj nofun⟩
   ·have hy1:=(h4 y hy).1
    have e3:H3 y.2.1=some _:=w3 _ _ hy1 (by simp;exact cX hy1 B.ca.obj nofun)
    exact ⟨hl hy1 e3,((h4 y hy).2.1.fix (w3.fix fun b hb o e=>by simp at hb;subst hb;rw [B.ca.obj] at e;cases e;exact T.uN)).fix fx4,(h4 y hy).2.2⟩
  have o4:H4 g.a=some _:=kH _ _ P3.obj (by rw [C0.obj];simp)
  have ca4:cD t K H4 c dxc nl ns (k+3+x.length):=⟨kH _ _ C3'.obj (by rw [B.ca.obj];simp),C3'.nums.fix fx4,C3'.len⟩
  refine ⟨_,rfl,g.a,g.dx,_,rfl,o4,sm 6,?_⟩
  have P5:=P4.ins o4 T.mO (H':=a6 H4 g.a (.ins t.cR g.dx (prF p g.cl col (markNum st.before) pg sh))) (bG.chg (by simp))
  have fx5:iV t H4 (a6 H4 g.a (.ins t.cR g.dx (prF p g.cl col (markNum st.before) pg sh))):=iV.chg o4 T.mO
  refine ⟨(sz 1),fun q nq=>?_⟩
  have s6:∀ o,aK (a6 H4 g.a (.ins t.cR g.dx (prF p g.cl col (markNum st.before) pg sh))) (a6 (a6 H4 g.a (.ins t.cR g.dx (prF p g.cl col (markNum st.before) pg sh))) q o):=fun o=>aK.new nq
  have W5:bG [g.a,g.cl,c] H (a6 H4 g.a (.ins t.cR g.dx (prF p g.cl col (markNum st.before) pg sh))):=by
   intro b o e nb
   have n1:b≠g.a:=fun zz=>nb (by simp [zz])
   rw [aJ n1]
   exact kH b o (W3 b o e nb) (by rw [e];simp)
  refine O.nums [0] rfl _ q (W5.trans (s6 (.lst [.int 0])).fC) ⟨p,col,pg,sh,as,ps,kvs,fB.same ⟨⟨(S4 _).fix fx5,P5.xcl,P5.cld.congr rfl,Nat.le_succ_of_le P5.kn,P5.mW,P5.l_,P5.xpg,P5.pgT,P5.xsh,P5.DH,P5.nav⟩,aD⟩ (s6 _)⟩ ?_ ?_ aD
  ·have ca5:cD t K (a6 H4 g.a (.ins t.cR g.dx (prF p g.cl col (markNum st.before) pg sh))) c dxc nl ns (k+3+x.length):=⟨(aJ B.nc).trans ca4.obj,ca4.nums.fix fx5,ca4.len⟩
   exact ca5.same (s6 _)
  ·have h4:H4 q=none:=by
    cases zz:H4 q with
    | none=>rfl
    | some o =>
     by_cases hq:q=g.a
     ·rw [hq,aD] at nq;cases nq
     ·rw [aJ hq,zz] at nq;cases nq
   cases zz:H q with
   | none=>rfl
   | some o =>
    by_cases hq:q=c
    ·rw [hq,ca4.obj] at h4;cases h4
    ·rw [kH q o (w3 q o zz (by simpa using hq)) (by rw [zz];simp)] at h4;cases h4
end
section
variable {P:Program}{w:World}{K:Frag}{mg:Str->Option Value}{base:Heap}
section
variable {t:bH}{H H' H5:Hp}{g:PrA}{st:State}{n:Nat}{bC col pg sh:Addr}{as ps:List Addr}{kvs:List (fY×V)}{c dxc nl:Addr}{ns:List Int}{k':Nat}{res:State×Answer}{Q:VK}{E:XK}
theorem cQ.in5(Pr:cQ t H5 g st n)(C:cD t K H5 c dxc nl ns k')(W:bG [g.a,g.cl,c] H H5){q:Addr}(nq:H5 q=none):H q=none:=by
 obtain ⟨bC,col,pg,sh,as,ps,kvs,X⟩:=Pr
 cases e:H q with
 | none=>rfl
 | some o =>
  exfalso
  by_cases m:q∈[g.a,g.cl,c]
  ·simp only [mem_cons,not_mem_nil,or_false] at m
   rcases m with rfl|rfl|rfl
   ·rw [X.obj] at nq;cases nq
   ·rw [X.xcl] at nq;cases nq
   ·rw [C.obj] at nq;cases nq
  ·rw [W q o e m] at nq;cases nq
theorem rO.done(O:rO t K H g c dxc nl ns k' n res Q E){l:List Int}{s':State}(hr:res=(s',.nums l))(W:bG [g.a,g.cl,c] H H5)(Pr:cQ t H5 g s' n)(C:cD t K H5 c dxc nl ns k')(q:Addr)(nq:H5 q=none):Q (.ref q) (a6 H5 q (.lst (l.map V.int))):=by
 have s6:aK H5 (a6 H5 q (.lst (l.map V.int))):=aK.new nq
 subst hr
 exact O.nums l rfl _ q (W.trans s6.fC) (Pr.same s6) (C.same s6) (Pr.in5 C W nq) aD
theorem rO.at_(O:rO t K H g c dxc nl ns k' n res Q E){l:List Int}{s':State}(hr:res=(s',.nums l))(W:bG [g.a,g.cl,c] H H5)(Pr:cQ t H5 g s' n)(C:cD t K H5 c dxc nl ns k')(q:Addr)(nq:H q=none)(f:H5 q=some (.lst (l.map V.int))):Q (.ref q) H5:=by
 subst hr
 exact O.nums l rfl _ q W Pr C nq f
theorem rO.fail(O:rO t K H g c dxc nl ns k' n res Q E){z:Nat}{s':State}(hr:res=(s',.refused z))(W:bG [g.a,g.cl,c] H H5)(Pr:cQ t H5 g s' n)(C:cD t K H5 c dxc nl ns k')(e:Option Addr):E (.ref (Qz t z)) e H5:=by
 subst hr
 exact O.refused z rfl _ e W Pr C
theorem cD.MR(T:b7 K mg t)(C:cD t K H c dxc nl ns k')(h:H g.a=some (.ins t.cR g.dx (prF bC g.cl col k pg sh)))(nc:c≠g.a)(o:HO):cD t K (a6 H g.a o) c dxc nl ns k':=⟨(aJ nc).trans C.obj,C.nums.fix (iV.chg h T.mO),C.len⟩
theorem fB.Iq(T:b7 K mg t)(X:fB t H g st n bC col pg sh as ps kvs){col':Addr}{as':List Addr}{l:List Thing}(h1:H col'=some (.lst (as'.map V.ref)))(h2:aL t H as' l)(h3:col'≠g.av) :
 fB t (a6 H g.a (.ins t.cR g.dx (prF bC g.cl col' (markNum st.before) pg sh))) g { st with column:=l } n bC col' pg sh as' ps kvs:=by
 have P5:=X.toPressC.ins X.obj T.mO (H':=a6 H g.a (.ins t.cR g.dx (prF bC g.cl col' (markNum st.before) pg sh))) (bG.chg (by simp))
 have fx:iV t H (a6 H g.a (.ins t.cR g.dx (prF bC g.cl col' (markNum st.before) pg sh))):=iV.chg X.obj T.mO
 exact ⟨⟨P5.AX,P5.xcl,P5.cld,P5.kn,(aJ (cX h1 X.obj nofun)).trans h1,h2.fix fx,P5.xpg,P5.pgT,P5.xsh,P5.DH,h3,P5.nav.2⟩,aD⟩
end
theorem Hl{b:Bool}(h:(!b)=true):b=false:=by cases b<;>first|rfl|cases h
theorem Ia{b:Bool}(h:(!b)=false):b=true:=by cases b<;>first|rfl|cases h
theorem Ht{r:List Int}{l:List Thing}(h:xW r=some l):l.all (right 8)=true/\gA l+1=r.length:=by
 have em:xW r=match listIn (bO 8 true) r with
  | some (l,[])=>some l
  | _=>none:=rfl
 rw [em] at h
 split at h
 ·rename_i l' e
  cases h
  obtain ⟨e1,e2⟩:=ID e
  refine ⟨e2,?_⟩
  have e3:listNums (nums 8) l=listNums (nums 9) l:=gE (c8 e2) fun t ht=>(gJ 8 t ht).2.symm
  rw [e1,List.append_nil,e3]
  show _=((l.length:Int)::l.flatMap (nums 9)).length
  rw [length_cons];rfl
 ·cases h
inductive Pj(t:bH)(K:Frag)(vs:List V)(H:Hp)(Q:VK)(E:XK):Prop
 | mk:∀ (g:PrA) (c dxc nl:Addr) (ns:List Int) (k n:Nat) (st:State) (x r:List Int),vs=[.ref g.a,.ref c]->q0 t K H g c dxc nl ns k n st->ns.drop k=(x.length:Int)::(x++r)->rO t K H g c dxc nl ns (k+1+x.length) n (SgSpec.step st (.put x)) Q E->Pj t K vs H Q E
inductive Mn(t:bH)(K:Frag)(vs:List V)(H:Hp)(Q:VK)(E:XK):Prop
 | mk:∀ (g:PrA) (c dxc nl:Addr) (ns:List Int) (k n:Nat) (st:State) (x r:List Int),vs=[.ref g.a,.ref c]->q0 t K H g c dxc nl ns k n st->ns.drop k=(x.length:Int)::(x++r)->rO t K H g c dxc nl ns (k+1+x.length) n (SgSpec.step st (.left x)) Q E->Mn t K vs H Q E
theorem QU{t:bH}(T:b7 K mg t):bL P w K mg base (nG P w) 35 t.put.f t.put.fd ["press","told"] (Pj t K):=by
 refine T.put.F.C_ Pk (fun vs H Q E h=>?_) (fun cdv A outer s H vs Q E hr h=>?_)
 ·obtain ⟨g,c,dxc,nl,ns,k,n,st,x,r,rfl,_⟩:=h
  rfl
 ·obtain ⟨g,c,dxc,nl,ns,k,n,st,x,r,rfl,B,e0,O⟩:=h
  refine ⟨_,(aB (sv 2 Pk.nd (cf (sF T) T.hZ hr aX (aA (dN (pv 1) T.bM.cl T.cA.m (iH T) hr.m T.cA.b .nil aV) aF))) (aB (bT T.aU.cl T.bF (pv 0) (cf (D3 T) T.kept hr aX (aA (bW eN (aZ T.aU.cl T.bF (pv 0)) (pv 2)) aF))) (aE (aM (bR (aA (ln T.f_ (pv 2)) aF)))))),?_⟩
  obtain ⟨bC,col,pg,sh,as,ps,kvs,X⟩:=B.pr
  have es:SgSpec.step st (.put x)=match SbThing.read x with
   | none=>(st,SgSpec.no 3)
   | some l=>if SgSpec.keeps (st.column++l)=true then ({ st with column:=st.column++l },SgSpec.one (l.length:Int)) else (st,SgSpec.no 6):=rfl
  rw [<-Lj] at es
  refine ⟨_,rfl,c,dxc,_,rfl,B.ca.obj,rfl,c,dxc,nl,ns,k,x,r,rfl,B.ca,e0,fun H1 la u1 nla f1 C1=>?_⟩
  have X1:=X.calls T B.ca.obj u1
  have W1:bG [g.a,g.cl,c] H H1:=u1.mono (by simp)
  have P1:cQ t H1 g st n:=⟨_,_,_,_,_,_,_,X1⟩
  have hxl:x.length<=1000000:=by
   have:=congrArg List.length e0
   rw [length_drop,length_cons,length_append] at this
   have:=B.ca.len
   omega
  refine ⟨la,x,rfl,.inl f1,by omega,fun hn H2 s2=>?_,fun l hl lb bs H2 s2 nlb f2 T2=>?_⟩
  ·rw [hn] at es
   exact O.fail (s':=st) (z:=3) es (W1.trans s2.fC) (P1.same s2) (C1.same s2) none
  rw [hl] at es
  obtain ⟨r8,ht⟩:=Ht hl
  have X2:=X1.same s2
  have hct:=B.ok.col.gA
  have hcl:=B.ok.col.len
  have hll:=nX (oA (c8 r8))
  refine ⟨_,rfl,g.a,g.dx,_,_,rfl,X2.obj,rfl,_,rfl,col,lb,_,_,rfl,rfl,.inl X2.mW,.inl f2,?_,fun lc nlc=>?_⟩
  ·rw [length_map,length_map,X2.l_.len,T2.len,sizeLine_eq];omega
  generalize e3:a6 H2 lc _=H3
  have s3:aK H2 H3:=e3▸aK.new nlc
  have f3:H3 lc=some (.lst ((as++bs).map V.ref)):=by rw [<-e3,aD,map_append]
  have T3:aL t H3 (as++bs) (st.column++l):=(X2.l_.fix s3.fix).append (T2.fix s3.fix)
  have s23:=s2.trans s3
  refine ⟨lc,_,_,rfl,cT.of f3,T3,?_,fun hk H4 s4=>?_,fun hk H4 e s4=>?_⟩
  ·rw [eT];omega
  ·have es:SgSpec.step st (.put x)=({ st with column:=st.column++l },SgSpec.one (l.length:Int)):=by
    rw [es];show (if _ then _ else _)=_;rw [if_pos hk]
   have X4:=(X2.same s3).same s4
   refine ⟨_,rfl,g.a,g.dx,_,rfl,X4.obj,sm 6,?_⟩
   obtain ⟨avx,hav⟩:=B.av
   have hav2:=s2 _ _ (u1 _ _ hav (by simp;exact cX hav B.ca.obj nofun))
   have X5:=X4.Iq T (s4 _ _ f3) (T3.fix s4.fix) (Ne.symm (aH hav2 nlc))
   have s24:=s23.trans s4
   have C5:=(C1.same s24).MR T X4.obj B.nc (.ins t.cR g.dx (prF bC g.cl lc (markNum st.before) pg sh))
   have nlb2:lb≠g.a:=cX f2 X2.obj nofun
   have f5:a6 H4 g.a (.ins t.cR g.dx (prF bC g.cl lc (markNum st.before) pg sh)) lb=some (.lst (bs.map V.ref)):=(aJ nlb2).trans ((s3.trans s4) _ _ f2)
   refine ⟨_,rfl,lb,_,rfl,.inl (cT.of f5),(sz 1),fun q nq=>?_⟩
   have el:((bs.map V.ref).length:Int)=(l.length:Int):=by rw [length_map,T2.len]
   rw [el]
   exact O.done (s':={ st with column:=st.column++l }) (l:=[(l.length:Int)]) es ((W1.trans s24.fC).trans (bG.chg (by simp))) ⟨bC,lc,pg,sh,_,ps,kvs,X5⟩ C5 q nq
  ·have es:SgSpec.step st (.put x)=(st,SgSpec.no 6):=by
    rw [es];show (if _ then _ else _)=_;rw [if_neg (by rw [hk];decide)]
   exact O.fail (s':=st) (z:=6) es (W1.trans (s23.trans s4).fC) (P1.same (s23.trans s4)) (C1.same (s23.trans s4)) e
theorem Qw{t:bH}(T:b7 K mg t):bL P w K mg base (nG P w) 35 t.left.f t.left.fd ["press","told"] (Mn t K):=by
 refine T.left.F.C_ Mi (fun vs H Q E h=>?_) (fun cdv A outer s H vs Q E hr h=>?_)
 ·obtain ⟨g,c,dxc,nl,ns,k,n,st,x,r,rfl,_⟩:=h
  rfl
 ·obtain ⟨g,c,dxc,nl,ns,k,n,st,x,r,rfl,B,e0,O⟩:=h
  refine ⟨_,(aB (sv 2 Mi.nd (cf (sF T) T.hZ hr aX (aA (dN (pv 1) T.bM.cl T.cA.m (iH T) hr.m T.cA.b .nil aV) aF))) (aB (bT T.aU.cl T.bF (pv 0) (cf (D3 T) T.kept hr aX (aA (bW eN (pv 2) (aZ T.aU.cl T.bF (pv 0))) aF))) (aE (aM (bR (aA (ln T.f_ (pv 2)) aF)))))),?_⟩
  obtain ⟨bC,col,pg,sh,as,ps,kvs,X⟩:=B.pr
  have es:SgSpec.step st (.left x)=match SbThing.read x with
   | none=>(st,SgSpec.no 3)
   | some l=>if SgSpec.keeps (l++st.column)=true then ({ st with column:=l++st.column },SgSpec.one (l.length:Int)) else (st,SgSpec.no 6):=rfl
  rw [<-Lj] at es
  refine ⟨_,rfl,c,dxc,_,rfl,B.ca.obj,rfl,c,dxc,nl,ns,k,x,r,rfl,B.ca,e0,fun H1 la u1 nla f1 C1=>?_⟩
  have X1:=X.calls T B.ca.obj u1
  have W1:bG [g.a,g.cl,c] H H1:=u1.mono (by simp)
  have P1:cQ t H1 g st n:=⟨_,_,_,_,_,_,_,X1⟩
  have hxl:x.length<=1000000:=by
   have:=congrArg List.length e0
   rw [length_drop,length_cons,length_append] at this
   have:=B.ca.len
   omega
  refine ⟨la,x,rfl,.inl f1,by omega,fun hn H2 s2=>?_,fun l hl lb bs H2 s2 nlb f2 T2=>?_⟩
  ·rw [hn] at es
   exact O.fail (s':=st) (z:=3) es (W1.trans s2.fC) (P1.same s2) (C1.same s2) none
  rw [hl] at es
  obtain ⟨r8,ht⟩:=Ht hl
  have X2:=X1.same s2
  have hct:=B.ok.col.gA
  have hcl:=B.ok.col.len
  have hll:=nX (oA (c8 r8))
  refine ⟨_,rfl,_,rfl,g.a,g.dx,_,_,rfl,X2.obj,rfl,lb,col,_,_,rfl,rfl,.inl f2,.inl X2.mW,?_,fun lc nlc=>?_⟩
  ·rw [length_map,length_map,X2.l_.len,T2.len,sizeLine_eq];omega
  generalize e3:a6 H2 lc _=H3
  have s3:aK H2 H3:=e3▸aK.new nlc
  have f3:H3 lc=some (.lst ((bs++as).map V.ref)):=by rw [<-e3,aD,map_append]
  have T3:aL t H3 (bs++as) (l++st.column):=(T2.fix s3.fix).append (X2.l_.fix s3.fix)
  have s23:=s2.trans s3
  refine ⟨lc,_,_,rfl,cT.of f3,T3,?_,fun hk H4 s4=>?_,fun hk H4 e s4=>?_⟩
  ·rw [eT];omega
  ·have es:SgSpec.step st (.left x)=({ st with column:=l++st.column },SgSpec.one (l.length:Int)):=by
    rw [es];show (if _ then _ else _)=_;rw [if_pos hk]
   have X4:=(X2.same s3).same s4
   refine ⟨_,rfl,g.a,g.dx,_,rfl,X4.obj,sm 6,?_⟩
   obtain ⟨avx,hav⟩:=B.av
   have hav2:=s2 _ _ (u1 _ _ hav (by simp;exact cX hav B.ca.obj nofun))
   have X5:=X4.Iq T (s4 _ _ f3) (T3.fix s4.fix) (Ne.symm (aH hav2 nlc))
   have s24:=s23.trans s4
   have C5:=(C1.same s24).MR T X4.obj B.nc (.ins t.cR g.dx (prF bC g.cl lc (markNum st.before) pg sh))
   have nlb2:lb≠g.a:=cX f2 X2.obj nofun
   have f5:a6 H4 g.a (.ins t.cR g.dx (prF bC g.cl lc (markNum st.before) pg sh)) lb=some (.lst (bs.map V.ref)):=(aJ nlb2).trans ((s3.trans s4) _ _ f2)
   refine ⟨_,rfl,lb,_,rfl,.inl (cT.of f5),(sz 1),fun q nq=>?_⟩
   have el:((bs.map V.ref).length:Int)=(l.length:Int):=by rw [length_map,T2.len]
   rw [el]
   exact O.done (s':={ st with column:=l++st.column }) (l:=[(l.length:Int)]) es ((W1.trans s24.fC).trans (bG.chg (by simp))) ⟨bC,lc,pg,sh,_,ps,kvs,X5⟩ C5 q nq
  ·have es:SgSpec.step st (.left x)=(st,SgSpec.no 6):=by
    rw [es];show (if _ then _ else _)=_;rw [if_neg (by rw [hk];decide)]
   exact O.fail (s':=st) (z:=6) es (W1.trans (s23.trans s4).fC) (P1.same (s23.trans s4)) (C1.same (s23.trans s4)) e
inductive vF(t:bH)(K:Frag)(vs:List V)(H:Hp)(Q:VK)(E:XK):Prop
 | mk:∀ (g:PrA) (c dxc nl:Addr) (ns:List Int) (k n:Nat) (st:State) (E':XK),vs=[.ref g.a]->q0 t K H g c dxc nl ns k n st->rO t K H g c dxc nl ns k n (SgSpec.step st .drop) Q E'->vF t K vs H Q E
theorem Fp{t:bH}(T:b7 K mg t):bL P w K mg base hJ 1 t.j_.f t.j_.fd ["press"] (vF t K):=by
 refine T.j_.F.ok u0 (fun vs H Q E h=>?_) (fun cdv A outer s H vs Q E hr h=>?_)
 ·obtain ⟨g,c,dxc,nl,ns,k,n,st,E',rfl,_⟩:=h
  rfl
 ·obtain ⟨g,c,dxc,nl,ns,k,n,st,E',rfl,B,O⟩:=h
  refine ⟨_,(aB (sv 1 u0.nd (ln T.f_ (aZ T.aU.cl T.bF (pv 0)))) (aB (bT T.aU.cl T.bF (pv 0) (bR aF)) (aE (aM (bR (aA (pv 1) aF)))))),?_⟩
  obtain ⟨bC,col,pg,sh,as,ps,kvs,X⟩:=B.pr
  refine ⟨_,rfl,g.a,g.dx,_,_,rfl,X.obj,rfl,col,_,rfl,.inl (cT.of X.mW),?_⟩
  refine ⟨Nat.zero_le _,fun lc nlc=>?_⟩
  generalize e1:a6 H lc _=H1
  have s1:aK H H1:=e1▸aK.new nlc
  have f1:H1 lc=some (.lst []):=e1▸aD
  have X1:=X.same s1
  refine ⟨_,rfl,g.a,g.dx,_,rfl,X1.obj,sm 6,?_⟩
  obtain ⟨avx,hav⟩:=B.av
  have X2:=X1.Iq T (col':=lc) (as':=[]) (l:=[]) f1 aL.nil (Ne.symm (aH hav nlc))
  have C2:=(B.ca.same s1).MR T X1.obj B.nc (.ins t.cR g.dx (prF bC g.cl lc (markNum st.before) pg sh))
  refine ⟨_,rfl,(sz 1),fun q nq=>?_⟩
  have W:bG [g.a,g.cl,c] H (a6 H1 g.a (.ins t.cR g.dx (prF bC g.cl lc (markNum st.before) pg sh))):=s1.fC.trans (bG.chg (by simp))
  have el:((as.map V.ref).length:Int)=(st.column.length:Int):=by rw [length_map,X.l_.len]
  rw [el]
  exact O.done (s':={ st with column:=[] }) (l:=[(st.column.length:Int)]) rfl W ⟨bC,lc,pg,sh,[],ps,kvs,X2⟩ C2 q nq
inductive yC(t:bH)(K:Frag)(vs:List V)(H:Hp)(Q:VK)(E:XK):Prop
 | mk:∀ (g:PrA) (c dxc nl:Addr) (ns:List Int) (k n:Nat) (st:State),vs=[.ref g.a]->q0 t K H g c dxc nl ns k n st->rO t K H g c dxc nl ns k n (SgSpec.step st .where_) Q E->yC t K vs H Q E
theorem GD{t:bH}(T:b7 K mg t):bL P w K mg base (nG P w) 12 t.lL.f t.lL.fd ["press"] (yC t K):=by
 refine T.lL.F.C_ xU (fun vs H Q E h=>?_) (fun cdv A outer s H vs Q E hr h=>?_)
 ·obtain ⟨g,c,dxc,nl,ns,k,n,st,rfl,_⟩:=h
  rfl
 ·obtain ⟨g,c,dxc,nl,ns,k,n,st,rfl,B,O⟩:=h
  refine ⟨_,(aB (sv 1 xU.nd (cf (Dz T) T.pE hr aV (aA (aZ T.aU.cl T.bF (pv 0)) (aA (aZ T.aU.cl T.e_ (pv 0)) (aA (aZ T.aU.cl T.eS (pv 0)) aF))))) (aB (a_ (tc bY (pv 1) (aW T.hX)) (aE (dQ eG hr.hd rfl T.fE)) aR) (aE (aM (bR (aA (pv 1) aF)))))),?_⟩
  obtain ⟨bC,col,pg,sh,as,ps,kvs,X⟩:=B.pr
  refine ⟨_,rfl,g.a,g.dx,_,_,rfl,X.obj,rfl,_,rfl,g.a,g.dx,_,_,rfl,X.obj,rfl,_,rfl,g.a,g.dx,_,_,rfl,X.obj,rfl,col,bC,g.cl,as,st.column,st.style,rfl,cT.of X.mW,X.l_,B.ok.col,B.ok.style,X.AX,⟨kvs,X.xcl,X.cld⟩,fun H1 s1=>?_⟩
  have W1:bG [g.a,g.cl,c] H H1:=s1.fC
  have es:SgSpec.step st .where_=(st,match through st.style 0 (fresh st.style) none st.column with
   | some i=>SgSpec.one (i:Int)
   | none=>SgSpec.no 4):=rfl
  cases e:through st.style 0 (fresh st.style) none st.column with
  | none =>
   rw [e] at es
   refine ⟨_,rfl,rfl,_,rfl,aQ (fun _=>?_) fun z=>absurd z (by rw [a8];decide)⟩
   exact O.fail (s':=st) (z:=4) es W1 (B.pr.same s1) (B.ca.same s1) none
  | some i =>
   rw [e] at es
   refine ⟨_,rfl,rfl,_,rfl,aQ (fun z=>?_) fun _=>?_⟩
   ·rw [a8,decide_eq_true_eq] at z
    have:(i:Int)=-1:=z
    omega
   ·exact ⟨_,rfl,(sz 1),fun q nq=>O.done (s':=st) (l:=[(i:Int)]) es W1 (B.pr.same s1) (B.ca.same s1) q nq⟩
inductive Ep(t:bH)(K:Frag)(vs:List V)(H:Hp)(Q:VK)(E:XK):Prop
 | mk:∀ (g:PrA) (c dxc nl:Addr) (ns:List Int) (k n:Nat) (st:State),vs=[.ref g.a]->q0 t K H g c dxc nl ns k n st->rO t K H g c dxc nl ns k n (SgSpec.step st .end_) Q E->Ep t K vs H Q E
theorem Ma{t:bH}(T:b7 K mg t):bL P w K mg base (nG P w) 35 t.w8.f t.w8.fd ["press"] (Ep t K):=by
 refine T.w8.F.C_ Mg (fun vs H Q E h=>?_) (fun cdv A outer s H vs Q E hr h=>?_)
 ·obtain ⟨g,c,dxc,nl,ns,k,n,st,rfl,_⟩:=h
  rfl
 ·obtain ⟨g,c,dxc,nl,ns,k,n,st,rfl,B,O⟩:=h
  refine ⟨_,(aB (a_ (jC (c2 (cf (qR T) T.fV hr aV (aA (aZ T.aU.cl T.bF (pv 0)) aF)))) (aE (aM (bR (aA aG aF)))) aR) (aB (bT T.aU.cl T.bF (pv 0) (cf (D3 T) T.kept hr aX (aA (bW eN (aZ T.aU.cl T.bF (pv 0)) (cz (GZ T) T.lH hr aV)) aF))) (aE (aM (bR (aA aG aF)))))),?_⟩
  obtain ⟨bC,col,pg,sh,as,ps,kvs,X⟩:=B.pr
  have es:SgSpec.step st .end_=if st.column.any holds=true then (if SgSpec.keeps (st.column++ending)=true then ({ st with column:=st.column++ending },SgSpec.one 1) else (st,SgSpec.no 6)) else (st,SgSpec.one 0):=rfl
  refine ⟨_,rfl,g.a,g.dx,_,_,rfl,X.obj,rfl,col,as,st.column,rfl,cT.of X.mW,X.l_,fun H1 s1=>⟨_,rfl,aQ (fun z=>?_) fun z=>?_⟩⟩
  ·have z:st.column.any holds=false:=by simpa using z
   rw [if_neg (by rw [z];decide)] at es
   exact ⟨(sz 1),fun q nq=>O.done (s':=st) (l:=[0]) es s1.fC (B.pr.same s1) (B.ca.same s1) q nq⟩
  have z:st.column.any holds=true:=by simpa using z
  rw [if_pos z] at es
  have X1:=X.same s1
  refine ⟨_,rfl,g.a,g.dx,_,_,rfl,X1.obj,rfl,rfl,fun le es' H2 s2 nle f2 T2=>?_⟩
  have X2:=X1.same s2
  have hct:=B.ok.col.gA
  have hcl:=B.ok.col.len
  refine ⟨col,le,_,_,rfl,rfl,.inl X2.mW,.inl f2,?_,fun lc nlc=>?_⟩
  ·have h9:=X2.l_.len
   have h8:=T2.len
   have:Hn.length=2:=rfl
   rw [length_map,length_map,sizeLine_eq];omega
  generalize e3:a6 H2 lc _=H3
  have s3:aK H2 H3:=e3▸aK.new nlc
  have f3:H3 lc=some (.lst ((as++es').map V.ref)):=by rw [<-e3,aD,map_append]
  have s13:aK H H3:=s1.trans (s2.trans s3)
  have T3:aL t H3 (as++es') (st.column++ending):=(X2.l_.fix s3.fix).append (T2.fix s3.fix)
  refine ⟨lc,as++es',st.column++ending,rfl,cT.of f3,T3,?_,fun hk H4 s4=>?_,fun hk H4 e s4=>?_⟩
  ·rw [eT]
   have:gA ending<=10:=by decide
   omega
  ·rw [if_pos hk] at es
   have X4:=(X2.same s3).same s4
   refine ⟨_,rfl,g.a,g.dx,_,rfl,X4.obj,sm 6,?_⟩
   obtain ⟨avx,hav⟩:=B.av
   have X5:=X4.Iq T (s4 _ _ f3) (T3.fix s4.fix) (Ne.symm (aH ((s1.trans s2) _ _ hav) nlc))
   have C5:=(B.ca.same (s13.trans s4)).MR T X4.obj B.nc (.ins t.cR g.dx (prF bC g.cl lc (markNum st.before) pg sh))
   exact ⟨(sz 1),fun q nq=>O.done (s':={ st with column:=st.column++ending }) (l:=[1]) es ((s13.trans s4).fC.trans (bG.chg (by simp))) ⟨bC,lc,pg,sh,_,ps,kvs,X5⟩ C5 q nq⟩
  ·rw [if_neg (by rw [hk];decide)] at es
   exact O.fail (s':=st) (z:=6) es (s13.trans s4).fC (B.pr.same (s13.trans s4)) (B.ca.same (s13.trans s4)) e
inductive vI(t:bH)(K:Frag)(vs:List V)(H:Hp)(Q:VK)(E:XK):Prop
 | mk:∀ (g:PrA) (c dxc nl:Addr) (ns:List Int) (k n:Nat) (st:State) (i:Nat) (r:List Int),vs=[.ref g.a,.ref c]->q0 t K H g c dxc nl ns k n st->ns.drop k=(i:Int)::r->rO t K H g c dxc nl ns (k+1) n (SgSpec.step st (.things i)) Q E->vI t K vs H Q E
theorem K2{xs:List (Nat×Addr×List Addr×List Thing)}{i:Nat}:(∃ x∈xs,x.1=i/\eM (kvx xs) (ck i)=some (.ref x.2.1)/\((xs.map fun x=>(x.1,x.2.2.2)).find? fun y=>y.1==i)=some (i,x.2.2.2))\/(eM (kvx xs) (ck i)=none/\((xs.map fun x=>(x.1,x.2.2.2)).find? fun y=>y.1==i)=none):=by
 induction xs with
 | nil=>exact .inr ⟨rfl,rfl⟩
 | cons x r ih =>
  by_cases h:x.1=i
  ·refine .inl ⟨x,by simp,h,?_,?_⟩
   ·exact eY (p:=(ck x.1,V.ref x.2.1)) (by show ck x.1=ck i;rw [h])
   ·rw [map_cons,List.find?_cons_of_pos (by simpa using h),h]
  ·have hk:¬ (ck x.1:fY)=ck i:=fun e=>h (by have:=Sum.inl.inj e;omega)
   have e1:eM (kvx (x::r)) (ck i)=eM (kvx r) (ck i):=eI (p:=(ck x.1,V.ref x.2.1)) hk
   have e2:(((x::r).map fun x=>(x.1,x.2.2.2)).find? fun y=>y.1==i)=((r.map fun x=>(x.1,x.2.2.2)).find? fun y=>y.1==i):=by rw [map_cons,List.find?_cons_of_neg (by simpa using h)]
   rw [e1,e2]
   rcases ih with ⟨y,hy,h1,h2,h3⟩|h
   ·exact .inl ⟨y,by simp [hy],h1,h2,h3⟩
   ·exact .inr h
theorem FP{t:bH}(T:b7 K mg t):bL P w K mg base (nG P w) 3 t.kE.f t.kE.fd ["press","told"] (vI t K):=by
 refine T.kE.F.C_ vZ (fun vs H Q E h=>?_) (fun cdv A outer s H vs Q E hr h=>?_)
 ·obtain ⟨g,c,dxc,nl,ns,k,n,st,i,r,rfl,_⟩:=h
  rfl
 ·obtain ⟨g,c,dxc,nl,ns,k,n,st,i,r,rfl,B,e0,O⟩:=h
  refine ⟨_,(aB (sv 2 vZ.nd (dN (pv 1) T.bM.cl T.aY.m (bX T) hr.m T.aY.b .nil aV)) (aB (a_ (rY (Ng (Dl hr) (pv 2) (aZ T.aU.cl T.fR (pv 0)))) (aE (dQ eG hr.hd rfl T.fE)) aR) (aE (aM (cf (eA T) T.cM hr aV (aA (D_ (Dl hr) (aZ T.aU.cl T.fR (pv 0)) (pv 2) (fun _ _=>rfl)) aF)))))),?_⟩
  obtain ⟨bC,col,pg,sh,as,ps,kvs,X⟩:=B.pr
  refine ⟨_,rfl,c,dxc,_,rfl,B.ca.obj,rfl,c,dxc,nl,ns,k,_,_,rfl,B.ca,e0,fun H1 u1 C1=>?_⟩
  have X1:=X.calls T B.ca.obj u1
  have W1:bG [g.a,g.cl,c] H H1:=u1.mono (by simp)
  have P1:cQ t H1 g st n:=⟨_,_,_,_,_,_,_,X1⟩
  have es:SgSpec.step st (.things i)=(st,match st.classes.find? fun (x:Nat×List Thing)=>x.1==i with
   | some x=>.nums (told x.2)
   | none=>SgSpec.no 4):=rfl
  obtain ⟨xs,d1,d2,d3,d4⟩:=X1.xsh
  rw [d2] at es
  refine ⟨_,rfl,_,rfl,g.a,g.dx,_,_,rfl,X1.obj,rfl,sh,_,rfl,As.k (k:=ck i) d1,_,rfl,?_⟩
  rcases K2 (xs:=xs) (i:=i) with ⟨x,hx,hxi,hv,hf⟩|⟨hv,hf⟩
  ·rw [hf] at es
   rw [hv]
   refine aQ (fun z=>absurd z (by simp)) fun _=>?_
   obtain ⟨l1,l2,_⟩:=d4 x hx
   refine ⟨_,rfl,g.a,g.dx,_,_,rfl,X1.obj,rfl,_,rfl,sh,.ref x.2.1,rfl,hv▸As.k (k:=ck i) d1,x.2.1,x.2.2.1,x.2.2.2,rfl,cT.of l1,l2,?_,fun q nq=>?_⟩
   ·have:=(B.ok.cls (x.1,x.2.2.2) (by rw [d2];exact mem_map.mpr ⟨x,hx,rfl⟩)).2
    simp only at this;omega
   ·have hr8:=(B.ok.cls (x.1,x.2.2.2) (by rw [d2];exact mem_map.mpr ⟨x,hx,rfl⟩)).1
    rw [wW (c8 hr8)]
    exact O.done (s':=st) (l:=told x.2.2.2) es W1 P1 C1 q nq
  ·rw [hf] at es
   rw [hv]
   refine aQ (fun _=>?_) fun z=>absurd z (by simp)
   exact O.fail (s':=st) (z:=4) es W1 P1 C1 none
inductive BV(t:bH)(K:Frag)(vs:List V)(H:Hp)(Q:VK)(E:XK):Prop
 | mk:∀ (g:PrA) (c dxc nl:Addr) (ns:List Int) (k n:Nat) (st:State) (i:Nat) (r:List Int),vs=[.ref g.a,.ref c]->q0 t K H g c dxc nl ns k n st->ns.drop k=(i:Int)::r->rO t K H g c dxc nl ns (k+1) n (SgSpec.step st (.cost i)) Q E->BV t K vs H Q E
theorem JS{t:bH}(T:b7 K mg t):bL P w K mg base (nG P w) 12 t.nY.f t.nY.fd ["press","told"] (BV t K):=by
 refine T.nY.F.C_ nU (fun vs H Q E h=>?_) (fun cdv A outer s H vs Q E hr h=>?_)
 ·obtain ⟨g,c,dxc,nl,ns,k,n,st,i,r,rfl,_⟩:=h
  rfl
 ·obtain ⟨g,c,dxc,nl,ns,k,n,st,i,r,rfl,B,e0,O⟩:=h
  refine ⟨_,(aB (sv 2 nU.nd (dN (pv 1) T.bM.cl T.aY.m (bX T) hr.m T.aY.b .nil aV)) (aB (a_ (tc Mz (pv 2) (ln T.f_ (aZ T.aU.cl T.bF (pv 0)))) (aE (dQ eG hr.hd rfl T.fE)) aR) (aB (sv 3 nU.nd (cf (uJ T) T.iM hr aV (aA (aZ T.aU.cl T.bF (pv 0)) (aA (pv 2) (aA (aZ T.aU.cl T.e_ (pv 0)) (aA (aZ T.aU.cl T.eS (pv 0)) aF)))))) (aB (a_ (jC (c2 (cf (Dv T) T.pF hr aV (aA (pv 3) (aA (aZ T.aU.cl T.bF (pv 0)) (aA (pv 2) aF)))))) (aE (aM (bR (aA aG aF)))) aR) (aB (sv 4 nU.nd (cf (zE T) T.jQ hr aV (aA (pv 3) (aA (cf (iA T) T.eZ hr aV (aA (ix (aZ T.aU.cl T.bF (pv 0)) (pv 2)) aF)) aF)))) (aB (a_ (rY (CI (pv 4))) (aE (aM (bR (aA aG aF)))) aR) (aE (aM (bR (aA aG (aA (pv 4) aF))))))))))),?_⟩
  obtain ⟨bC,col,pg,sh,as,ps,kvs,X⟩:=B.pr
  refine ⟨_,rfl,c,dxc,_,rfl,B.ca.obj,rfl,c,dxc,nl,ns,k,_,_,rfl,B.ca,e0,fun H1 u1 C1=>?_⟩
  have X1:=X.calls T B.ca.obj u1
  have W1:bG [g.a,g.cl,c] H H1:=u1.mono (by simp)
  have P1:cQ t H1 g st n:=⟨_,_,_,_,_,_,_,X1⟩
  have es:SgSpec.step st (.cost i)=(st,match st.column[i]? with
   | none=>SgSpec.no 4
   | some t=>if (sofarAt st.style st.column i).begun=true/\breakNow (sofarAt st.style st.column i) t st.column[i+1]?=some true then (match costNow (sofarAt st.style st.column i) (penaltyOf t) with
    | some c=>.nums [2,c]
    | none=>.nums [1]) else SgSpec.one 0):=rfl
  refine ⟨_,rfl,_,rfl,g.a,g.dx,_,_,rfl,X1.obj,rfl,col,_,rfl,.inl (cT.of X1.mW),_,_,rfl,rfl,_,rfl,?_⟩
  have el:((as.map V.ref).length:Int)=(st.column.length:Int):=by rw [length_map,X.l_.len]
  show (if decide (((as.map V.ref).length:Int)<=(i:Int))=true then _ else _)
  rw [el]
  refine aQ (fun z=>?_) fun z=>?_
  ·have z:=of_decide_eq_true z
   rw [List.getElem?_eq_none (by omega)] at es
   exact O.fail (s':=st) (z:=4) es W1 P1 C1 none
  have hi:i<st.column.length:=by have:=of_decide_eq_false z;omega
  have hx:st.column[i]?=some st.column[i]:=getElem?_eq_getElem hi
  generalize st.column[i]=x at hx
  rw [hx] at es
  refine ⟨_,rfl,g.a,g.dx,_,_,rfl,X1.obj,rfl,_,rfl,_,rfl,g.a,g.dx,_,_,rfl,X1.obj,rfl,_,rfl,g.a,g.dx,_,_,rfl,X1.obj,rfl,col,bC,g.cl,as,st.column,i,st.style,rfl,cT.of X1.mW,X1.l_,by omega,B.ok.col,B.ok.style,X1.AX,⟨kvs,X1.xcl,X1.cld⟩,fun H2 pgA s2 fr2 ft2 A2 hc2=>?_⟩
  have X2:=X1.same s2
  have W2:bG [g.a,g.cl,c] H H2:=W1.trans s2.fC
  have PG:=kF st.style st.column i (by omega)
  have CK:=Ol B.ok.style B.ok.col (i:=i) (by omega)
  refine ⟨_,rfl,_,rfl,g.a,g.dx,_,_,rfl,X2.obj,rfl,_,rfl,col,as,st.column,i,st.style,_,bC,g.cl,_,_,pgA,rfl,A2,cT.of X2.mW,X2.l_,hi,_,rfl,aQ (fun z2=>?_) fun z2=>?_⟩
  ·have z2:((sofarAt st.style st.column i).begun&&isBreak st.column i)=false:=Hl z2
   have hn:¬ ((sofarAt st.style st.column i).begun=true/\breakNow (sofarAt st.style st.column i) x st.column[i+1]?=some true):=fun hh=>by
    have:=(EB PG hx).mp hh
    rw [this.1,this.2] at z2;cases z2
   simp only [] at es
   rw [if_neg hn] at es
   exact ⟨(sz 1),fun q nq=>O.done (s':=st) (l:=[0]) es W2 (P1.same s2) (C1.same s2) q nq⟩
  have z2:((sofarAt st.style st.column i).begun&&isBreak st.column i)=true:=Ia z2
  rw [Bool.and_eq_true] at z2
  simp only [] at es
  rw [if_pos ((EB PG hx).mpr z2),<-KG PG.st] at es
  obtain ⟨b,hb,hB⟩:=X2.l_.get' hx
  refine ⟨_,rfl,_,rfl,g.a,g.dx,_,_,rfl,X2.obj,rfl,_,rfl,col,_,_,_,rfl,rfl,cT.of X2.mW,rP hb,b,x,rfl,hB,_,st.style,_,bC,g.cl,_,_,pgA,rfl,A2,CK,fun H3 s3=>?_⟩
  have s23:=s2.trans s3
  have W3:bG [g.a,g.cl,c] H H3:=W1.trans s23.fC
  refine ⟨_,rfl,_,rfl,aQ (fun z3=>?_) fun z3=>?_⟩
  ·rw [uM z3] at es
   exact ⟨(sz 1),fun q nq=>O.done (s':=st) (l:=[1]) es W3 (P1.same s23) (C1.same s23) q nq⟩
  ·obtain ⟨cc,hc⟩:=rL z3
   rw [hc] at es ⊢
   exact ⟨_,rfl,(sz 2),fun q nq=>O.done (s':=st) (l:=[2,cc]) es W3 (P1.same s23) (C1.same s23) q nq⟩
end
section
variable {P:Program}{w:World}{K:Frag}{mg:Str->Option Value}{base:Heap}
theorem fB.but{t:bH}(T:b7 K mg t){H H3 H4:Hp}{g:PrA}{st:State}{n:Nat}{bC col pg sh:Addr}{as ps:List Addr}{kvs:List (fY×V)}{c dxc:Addr}{fs:List (Str×V)}(C0:fB t H g st n bC col pg sh as ps kvs)(hc:H c=some (.ins t.iX dxc fs))(w3:bG [c] H H3)
 (kH:∀ b o,H3 b=some o->H b≠none->H4 b=some o) (fx4:iV t H3 H4):fB t H4 g st n bC col pg sh as ps kvs:=by
 have P3:=C0.calls T hc w3
 have hl:∀ {b:Addr} {o:HO},H b=some o->H3 b=some o->H4 b=some o:=fun e e3=>kH _ _ e3 (by rw [e];simp)
 have fx3:iV t H H3:=w3.fix fun b hb o e=>by simp at hb;subst hb;rw [hc] at e;cases e;exact T.uN
 refine ⟨⟨P3.AX.fix fx4,hl C0.xcl P3.xcl,P3.cld.fix fx4,P3.kn,hl C0.mW P3.mW,P3.l_.fix fx4,hl C0.xpg P3.xpg,P3.pgT.fix fx4,?_,P3.DH,P3.nav⟩,hl C0.obj P3.obj⟩
 obtain ⟨xs,h1,h2,h3,h4⟩:=C0.xsh
 refine ⟨xs,hl h1 (w3 _ _ h1 ?_),h2,h3,fun y hy=>?_⟩
 ·simp;exact cX h1 hc nofun
 ·have hy1:=(h4 y hy).1
  have e3:H3 y.2.1=some _:=w3 _ _ hy1 (by simp;exact cX hy1 hc nofun)
  exact ⟨hl hy1 e3,((h4 y hy).2.1.fix fx3).fix fx4,(h4 y hy).2.2⟩
theorem C8(s:SgPage.Style)(ci:Nat)(k:Class)(d:Nat):classOf ⟨s.height,s.most,s.top,(ci,k)::s.classes.filter fun (x:Nat×Class)=>x.1 !=ci⟩ d=if d=ci then k else classOf s d:=by
 unfold classOf
 by_cases h:d=ci
 ·subst h
  rw [if_pos rfl]
  show ((List.find? _ (_::_)).map _).getD _=_
  rw [List.find?_cons_of_pos (by simp)];rfl
 ·rw [if_neg h]
  show ((List.find? _ (_::_)).map _).getD _=_
  rw [List.find?_cons_of_neg (by simp;exact fun z=>h z.symm)]
  congr 2
  generalize s.classes=l
  induction l with
  | nil=>rfl
  | cons y r ih =>
   rw [List.filter_cons]
   by_cases q:y.1=ci
   ·rw [if_neg (by simp [q]),ih,List.find?_cons_of_neg]
    simp [q];exact fun z=>h z.symm
   ·rw [if_pos (by simp [q])]
    by_cases z:y.1=d
    ·rw [List.find?_cons_of_pos (by simp [z]),List.find?_cons_of_pos (by simp [z])]
    ·rw [List.find?_cons_of_neg (by simp [z]),List.find?_cons_of_neg (by simp [z]),ih]
theorem EF.put{t:bH}{H H':Hp}{kvs:List (fY×V)}{s:SgPage.Style}(h:EF t H kvs s)(f:iV t H H'){ci:Nat}{k:Class}{p:Addr}(hp:iE t H' p k):EF t H' (nW kvs (ck ci) (.ref p)) ⟨s.height,s.most,s.top,(ci,k)::s.classes.filter fun (x:Nat×Class)=>x.1 !=ci⟩:=by
 have ei:∀ d:Nat,(ck d:fY)=ck ci↔d=ci:=fun d=>⟨fun e=>by have:=Sum.inl.inj e;omega,fun e=>by rw [e]⟩
 refine ⟨fun d v hv=>?_,fun d hv=>?_⟩
 ·rw [KP] at hv
  rw [C8]
  by_cases q:d=ci
  ·rw [if_pos ((ei d).mpr q)] at hv
   rw [if_pos q]
   exact ⟨p,(Option.some.inj hv).symm,hp⟩
  ·rw [if_neg (fun z=>q ((ei d).mp z))] at hv
   rw [if_neg q]
   obtain ⟨a,h1,h2⟩:=h.at_ d v hv
   exact ⟨a,h1,h2.fix f⟩
 ·rw [KP] at hv
  rw [C8]
  by_cases q:d=ci
  ·rw [if_pos ((ei d).mpr q)] at hv;cases hv
  ·rw [if_neg (fun z=>q ((ei d).mp z))] at hv
   rw [if_neg q]
   exact h.no d hv
inductive yZ(t:bH)(K:Frag)(vs:List V)(H:Hp)(Q:VK)(E:XK):Prop
 | mk:∀ (g:PrA) (c dxc nl:Addr) (ns:List Int) (k n:Nat) (st:State) (ci la:Nat) (f m:Int) (x r:List Int),vs=[.ref g.a,.ref c]->q0 t K H g c dxc nl ns k n st->n<1000->ns.drop k=(ci:Int)::f::m::(la:Int)::(x.length:Int)::(x++r)->rO t K H g c dxc nl ns (k+5+x.length) (n+1) (SgSpec.step st (.cls ci x f m la)) Q E->yZ t K vs H Q E
theorem PK(la:Nat):inV (.int (la:Int)) ([0,1].map V.int)=decide (la<=1):=by
 have e:∀ a:Int,eqV (.int a) (.int (la:Int))=decide (a=(la:Int)):=fun a=>by show (a==(la:Int))=_;rw [Bool.beq_eq_decide_eq]
 unfold inV
 simp only [map_cons,List.map_nil,List.any_cons,List.any_nil,e,Bool.or_false]
 rw [Bool.eq_iff_iff]
 simp only [Bool.or_eq_true,decide_eq_true_eq]
 omega
theorem F4{t:bH}(T:b7 K mg t):bL P w K mg base (nG P w) 10 t.lJ.f t.lJ.fd ["press","told"] (yZ t K):=by
 refine T.lJ.F.C_ h_ (fun vs H Q E h=>?_) (fun cdv A outer s H vs Q E hr h=>?_)
 ·obtain ⟨g,c,dxc,nl,ns,k,n,st,ci,la,f,m,x,r,rfl,_⟩:=h
  rfl
 ·obtain ⟨g,c,dxc,nl,ns,k,n,st,ci,late,f,m,x,r,rfl,B,hn,e0,O⟩:=h
  refine ⟨_,(aB (sv 2 h_.nd (dN (pv 1) T.bM.cl T.aY.m (bX T) hr.m T.aY.b .nil aV)) (aB (sv 3 h_.nd (dN (pv 1) T.bM.cl T.aY.m (bX T) hr.m T.aY.b .nil aV)) (aB (sv 4 h_.nd (dN (pv 1) T.bM.cl T.aY.m (bX T) hr.m T.aY.b .nil aV)) (aB (sv 5 h_.nd (dN (pv 1) T.bM.cl T.aY.m (bX T) hr.m T.aY.b .nil aV)) (aB (sv 6 h_.nd (dN (pv 1) T.bM.cl T.cA.m (iH T) hr.m T.cA.b .nil aV)) (aB (a_ (PW.pt (kX (jC (c2 (cf (Kt T) T.qX hr aV (aA (pv 2) aF)))) (kX (jC (Pn pT pT aG (pv 3) (aW T.Ck))) (jD (jC (c2 (cf (i7 T) T.gK hr aV (aA (pv 4) aF)))))))) (aE (dQ eG hr.hd rfl T.c6)) aR) (aB (a_ (PW.pt (kX (BY Bw (pv 5) (pG (aA aG (aA aG aF))) (by with_unfolding_all rfl)) (jD (jC (c2 (cf (oR T) T.gQ hr aV (aA (pv 6) aF))))))) (aE (dQ eG hr.hd rfl T.c6)) aR) (aB (ML (Dl hr) (aZ T.aU.cl T.eS (pv 0)) (pv 2) (cn (pA T) T.bK hr (aA (pv 6) (aA (pv 3) (aA (pv 4) (aA (ec bY (pv 5) aG) aF))))) rfl) (aE (aM (bR (aA aG aF)))))))))))),?_⟩
  obtain ⟨bC,col,pg,sh,as,ps,kvs,C0⟩:=B.pr
  refine ⟨_,rfl,c,dxc,_,rfl,B.ca.obj,rfl,c,dxc,nl,ns,k,_,_,rfl,B.ca,e0,fun H1 u1 C1=>?_⟩
  have e1:=j0 e0
  refine ⟨_,rfl,c,dxc,_,rfl,C1.obj,rfl,c,dxc,nl,ns,k+1,f,_,rfl,C1,e1,fun H2 u2 C2=>?_⟩
  have e2:=j0 e1
  refine ⟨_,rfl,c,dxc,_,rfl,C2.obj,rfl,c,dxc,nl,ns,k+2,m,_,rfl,C2,e2,fun H3 u3 C3=>?_⟩
  have e3:=j0 e2
  refine ⟨_,rfl,c,dxc,_,rfl,C3.obj,rfl,c,dxc,nl,ns,k+3,_,_,rfl,C3,e3,fun H4 u4 C4=>?_⟩
  have e4:=j0 e3
  have w4:bG [c] H H4:=((u1.trans u2).trans u3).trans u4
  refine ⟨_,rfl,c,dxc,_,rfl,C4.obj,rfl,c,dxc,nl,ns,k+4,x,r,rfl,C4,e4,fun H5 la u5 nla f5 C5=>?_⟩
  have w5:bG [c] H H5:=w4.trans u5
  have P5:=C0.calls T B.ca.obj w5
  have W5:bG [g.a,g.cl,c] H H5:=w5.mono (by simp)
  have C5':cD t K H5 c dxc nl ns (k+5+x.length):=by
   have:k+4+1+x.length=k+5+x.length:=by omega
   rw [this] at C5;exact C5
  have nlaH:H la=none:=w4.free C4.obj nla
  have bad:∀ H6,aK H5 H6->(∀ g',¬ (glueAll x=some g'/\(ci:Int)<=CLASSES/\0<=f/\f<=1000000/\isLen m=true/\late<=1))->E (.ref t.c6) none H6:=by
   intro H6 s6 hb
   have es:SgSpec.step st (.cls ci x f m late)=(st,SgSpec.no 1):=by
    show (match glueAll x with
     | none=>(st,SgSpec.no 1)
     | some g=>_)=_
    cases e:glueAll x with
    | none=>rfl
    | some g' =>
     show (if _ then _ else _)=_
     rw [if_neg (fun z=>hb g' ⟨e,z⟩)]
   exact O.fail (z:=1) es (W5.trans s6.fC) ⟨bC,col,pg,sh,as,ps,kvs,(P5.same s6).mono (by omega)⟩ (C5'.same s6) none
  refine ⟨_,rfl,_,rfl,_,rfl,aQ (fun z=>oB ?_) fun z=>⟨_,rfl,_,_,rfl,rfl,_,rfl,aQ (fun y1=>⟨_,_,rfl,rfl,_,rfl,aQ (fun y2=>oB ?_) fun y2=>⟨_,rfl,m,rfl,_,rfl,aQ (fun y3=>?_) fun y3=>?_⟩⟩) fun y1=>⟨_,rfl,oB (oB ?_)⟩⟩⟩
  ·refine bad H5 (i5 _) fun g' q=>?_
   have z:=Hl z
   rw [Bool.and_eq_false_iff] at z
   have:(ci:Int)<=255:=q.2.1
   rcases z with z|z
   ·have:=of_decide_eq_false z;omega
   ·have:=of_decide_eq_false z;omega
  ·refine bad H5 (i5 _) fun g' q=>?_
   have:=of_decide_eq_false (Hl y2)
   have:f<=1000000:=q.2.2.2.1
   omega
  ·refine bad H5 (i5 _) fun g' q=>?_
   have y3:=Hl y3
   rw [q.2.2.2.2.1] at y3;cases y3
  rotate_left
  ·refine bad H5 (i5 _) fun g' q=>?_
   have:=of_decide_eq_false y1
   have:0<=f:=q.2.2.1
   omega
  have z:=Ia z
  rw [Bool.and_eq_true] at z
  have z1:(ci:Int)<=255:=of_decide_eq_true z.2
  have z2:0<=f:=of_decide_eq_true y1
  have z3:f<=1000000:=of_decide_eq_true (Ia y2)
  have z4:isLen m=true:=Ia y3
  refine ⟨_,rfl,(sz 2),fun tp ntp=>?_⟩
  generalize eH6:a6 H5 tp _=H6
  have s6:aK H5 H6:=eH6▸aK.new ntp
  have f6:H6 tp=some (.tup ([0,1].map V.int)):=eH6▸aD
  refine ⟨tp,_,rfl,.inr (SqT.of f6),rfl,rfl,_,rfl,?_⟩
  show (if (!inV (.int (late:Int)) ([0,1].map V.int))=true then _ else _)
  rw [PK]
  refine aQ (fun y5=>oB ?_) fun y5=>⟨_,rfl,la,x,rfl,cT.of (s6 _ _ f5),_,rfl,aQ (fun y6=>?_) fun y6=>?_⟩
  ·refine bad H6 s6 fun g' q=>?_
   have:=of_decide_eq_false (Hl y5)
   exact this q.2.2.2.2.2
  ·refine bad H6 s6 fun g' q=>?_
   rw [BP (Hl y6)] at q;cases q.1
  have z5:late<=1:=of_decide_eq_true (Ia y5)
  obtain ⟨gg,x1,x2,x3⟩:=An (Ia y6)
  have el:decide (V.int (late:Int)=V.int 1)=(late==1):=by
   rw [a8,Bool.beq_eq_decide_eq,Bool.eq_iff_iff,decide_eq_true_eq,decide_eq_true_eq];omega
  have es:SgSpec.step st (.cls ci x f m late)=({ st with style:=⟨st.style.height,st.style.most,st.style.top,(ci,⟨gg,f,m,late==1⟩)::st.style.classes.filter fun (x:Nat×Class)=>x.1 !=ci⟩ },SgSpec.one 0):=by
   show (match glueAll x with
    | none=>(st,SgSpec.no 1)
    | some g=>_)=_
   rw [x1]
   show (if _ then _ else _)=_
   rw [if_pos ⟨z1,z2,z3,z4,z5⟩]
  refine ⟨_,rfl,_,rfl,_,rfl,_,rfl,rfl,fun p dx np nd ne=>?_⟩
  rw [el]
  have sd:aK H6 (a6 (a6 H6 dx (.own p)) p (.ins t.b5 dx [])):=(aK.new nd).trans (aK.new (by rw [aJ (Ne.symm ne)];exact np))
  refine ⟨p,dx,la,⟨gg,f,m,late==1⟩,rfl,aD,by rw [sd _ _ (s6 _ _ f5),x2];rfl,fun H7 u7 S7=>⟨rfl,?_⟩⟩
  have k7:∀ b o,H5 b=some o->b≠la->H7 b=some o:=fun b o e n=>u7 b o (sd _ _ (s6 _ _ e)) (by simp only [mem_cons,not_mem_nil,or_false,not_or];exact ⟨aH (s6 _ _ e) np,n⟩)
  have fx7:iV t H5 H7:=fun b o cc e=>k7 b o e fun zz=>by subst zz;rw [f5] at e;cases e;exact kY cc
  have kH:∀ b o,H5 b=some o->H b≠none->H7 b=some o:=fun b o e hb=>k7 b o e fun zz=>hb (zz▸nlaH)
  have P7:=C0.but T B.ca.obj w5 kH fx7
  have ca7:cD t K H7 c dxc nl ns (k+5+x.length):=⟨kH _ _ C5'.obj (by rw [B.ca.obj];simp),C5'.nums.fix fx7,C5'.len⟩
  have W7:bG [g.a,g.cl,c] H H7:=fun b o e nb=>kH b o (W5 b o e nb) (by rw [e];simp)
  refine ⟨_,rfl,g.a,g.dx,_,_,rfl,P7.obj,rfl,_,rfl,g.cl,_,rfl,NX.k (k:=ck ci) P7.xcl ?_,?_⟩
  ·have:=P7.kn;rw [sizeLine_eq];omega
  have fx8:∀ o,iV t H7 (a6 H7 g.cl o):=fun o=>iV.chg P7.xcl K_
  have kl:∀ {b:Addr} {o u:HO},H7 b=some o->(∀ xs,o≠.dK xs)->a6 H7 g.cl u b=some o:=fun e hn=>by rw [aJ (fun zz=>by subst zz;rw [P7.xcl] at e;cases e;exact hn _ rfl)];exact e
  have P8:fB t (a6 H7 g.cl (.dK (nW kvs (ck ci) (.ref p)))) g { st with style:=⟨st.style.height,st.style.most,st.style.top,(ci,⟨gg,f,m,late==1⟩)::st.style.classes.filter fun (x:Nat×Class)=>x.1 !=ci⟩ } (n+1) bC col pg sh as ps (nW kvs (ck ci) (.ref p)):=by
   refine ⟨⟨?_,aD,P7.cld.put (fx8 _) (S7.fix (fx8 _)),?_,kl P7.mW nofun,P7.l_.fix (fx8 _),kl P7.xpg nofun,P7.pgT.fix (fx8 _),?_,P7.DH,P7.nav⟩,kl P7.obj nofun⟩
   ·obtain ⟨q1,q2,q3,q4⟩:=P7.AX
    exact kI.fix ⟨q1,q2,q3,q4⟩ (fx8 _)
   ·have:=pM kvs (ck ci) (.ref p);have:=P7.kn;omega
   ·obtain ⟨xs,h1,h2,h3,h4⟩:=P7.xsh
    exact ⟨xs,(aJ P7.DH).trans h1,h2,h3,fun y hy=>⟨kl (h4 y hy).1 nofun,(h4 y hy).2.1.fix (fx8 _),(h4 y hy).2.2⟩⟩
  have ca8:cD t K (a6 H7 g.cl (.dK (nW kvs (ck ci) (.ref p)))) c dxc nl ns (k+5+x.length):=⟨kl ca7.obj nofun,ca7.nums.fix (fx8 _),ca7.len⟩
  exact ⟨(sz 1),fun q nq=>O.done (l:=[0]) es (W7.trans (bG.chg (by simp))) ⟨bC,col,pg,sh,as,ps,_,P8⟩ ca8 q nq⟩
end
theorem Qk:bootBuiltins "list"=some (.type "list"):=by decide +kernel
theorem HR:∀ {l m:List Nat},l.Nodup->(∀ x∈l,x∈m)->l.length<=m.length
 | [],_,_,_=>Nat.zero_le _
 | a::l,m,hn,hs=>by
  have ha:=hs a (by simp)
  have h1:=List.nodup_cons.mp hn
  have:=HR (m:=m.erase a) h1.2 fun x hx=>(List.mem_erase_of_ne (fun (e:x=a)=>h1.1 (by rw [<-e];exact hx))).mpr (hs x (by simp [hx]))
  rw [List.length_erase_of_mem ha] at this
  have:=List.length_pos_of_mem ha
  rw [length_cons];omega
theorem OM{d:Addr}{o:Obj}{kvs:List (fY×V)}{g:TG}{tb:TS}{D:vT}{σ:L2.St}{H:Hp}(Pv:Nat->L2.St->Hp->Prop)(h0:Pv 0 σ H)(hl:∀ i σ H,Pv i σ H->H d=some (.mH o (.dK kvs)))
 (hs:∀ i k v σ H,kvs[i]?=some (k,v)->Pv i σ H->g (kV k) σ H fun σ2 H2=>tb { D with nx:=Pv (i+1),ct:=Pv (i+1),bk:=D.nx } σ2 H2) (hd:∀ σ H,Pv kvs.length σ H->D.nx σ H) :
 NZ (Itk d o kvs) g tb D σ H:=by
 refine ⟨fun i m σ H=>m=kvs.length - i/\i<=kvs.length/\Pv i σ H,⟨kvs.length,by simp,Nat.zero_le _,h0⟩,?_⟩
 rintro i m σ H ⟨rfl,hi,p⟩
 by_cases hlt:i<kvs.length
 ·refine .inr ⟨⟨hl i σ H p,hlt⟩,Pv (i+1),fun σ' H' p'=>⟨kvs.length - (i+1),by omega,rfl,hlt,p'⟩,fun x H' y=>?_⟩
  obtain ⟨e,k,v,y,rfl⟩:=y
  subst e
  exact hs i k v σ _ y p
 ·have e:i=kvs.length:=by omega
  subst e
  exact .inl ⟨⟨hl _ σ H p,Nat.le_refl _⟩,hd σ H p⟩
section
variable {P:Program}{w:World}{K:Frag}{mg:Str->Option Value}{base:Heap}
theorem Hb{i j:Nat}{c:Option Int}{b:Best}{x:Nat×Option Int}(hb:∀ y,b=some y->y.1<j)(hi:i<j)(h:better i c b=some x):x.1<j:=by
 unfold better at h
 cases b with
 | none=>cases h;exact hi
 | some y =>
  simp only [] at h
  split at h
  ·cases h;exact hi
  ·cases h;exact hb _ rfl
theorem Aa{s:SgPage.Style}:∀ {l:List Thing} {i j:Nat} {p:Sofar} {b:Best},(∀ x,b=some x->x.1<i)->through s i p b l=some j->j<i+l.length
 | [],i,j,p,b,hb,h=>by simp [through] at h
 | t::r,i,j,p,b,hb,h=>by
  have hb':∀ x,b=some x->x.1<i+1:=fun x e=>Nat.lt_succ_of_lt (hb x e)
  have go:∀ {p' b'},(∀ x,b'=some x->x.1<i+1)->through s (i+1) p' b' r=some j->j<i+(t::r).length:=fun h1 h2=>by
   have:=Aa h1 h2
   rw [length_cons];omega
  simp only [through] at h
  split at h
  ·exact go hb' h
  ·split at h
   ·cases h
   ·exact go hb' h
   ·split at h
    ·cases e:better i (costNow p (penaltyOf t)) b with
     | none =>
      rw [e] at h
      have:i=j:=Option.some.inj h
      rw [length_cons];omega
     | some x =>
      rw [e] at h
      have:x.1=j:=Option.some.inj h
      have:=Hb hb' (Nat.lt_succ_self i) e
      rw [length_cons];omega
    ·exact go (fun x e=>Hb hb' (Nat.lt_succ_self i) e) h
theorem Ez{l:List Thing}{x:Thing}(h:oC l)(hx:Hi x):oC (l++[x]):=fun y hy=>by
 rcases mem_append.mp hy with h1|h1
 ·exact h y h1
 ·simp at h1;rw [h1];exact hx
theorem Hq{s:SgPage.Style}{l:List Thing}(SO:dI s)(CO:i_ l):∀ i,i<=l.length->oC (sofarAt s l i).things
 | 0,_=>fun x hx=>nomatch hx
 | i+1,h=>by
  have ih:=Hq SO CO i (by omega)
  have hx:l[i]?=some l[i]:=getElem?_eq_getElem (by omega)
  generalize l[i]=x at hx
  have PG:=kF s l i (by omega)
  rw [iY hx]
  show oC (put1 s (sofarAt s l i) x).things
  have ho:Hi x:=Aq (pJ (CO.at hx))
  generalize sofarAt s l i=p at *
  by_cases hd:dropped x=false\/p.begun=true
  ·by_cases hni:tH x=true
   ·cases x with
    | insert c gg d k inner =>
     show oC (insertThing s p c inner gg d k).things
     rw [(zZ PG.st PG.nodup).2.1]
     exact ih
    | _=>cases hni
   ·by_cases hs:cV x=true
    ·obtain ⟨⟨hh,d⟩,hsol⟩:=Option.isSome_iff_exists.mp hs
     have e1:put1 s p x=solidThing s p x hh d:=by
      cases x<;>first|(cases hsol;rfl)|cases hsol
     rw [e1,<-JG hsol]
     show oC ((wI s p x).things++[x])
     refine Ez ?_ ho
     unfold wI
     split
     ·exact ih
     ·refine Ez ih fun g' hg'=>?_
      have:=(lB SO.top).2.2.2
      cases hg'
      exact this
    ·rw [Cs PG.st (by simpa using hs) (by simpa using hni) hd]
     exact Ez ih ho
  ·have h1:dropped x=true:=by
    cases e:dropped x with
    | true=>rfl
    | false=>exact absurd (.inl e) hd
   have h2:p.begun=false:=by
    cases e:p.begun with
    | false=>rfl
    | true=>exact absurd (.inr e) hd
   rw [Ey h1 h2];exact ih
theorem Kr{l:List Thing}(h m:Int)(hf:l.all (fits 8)=true):(nums 9 (vpack l (.to h) m).1).length=10+gA l:=by
 have:=congrArg List.length (CS h m hf)
 rw [length_map] at this
 rw [<-this]
 simp only [length_append,length_map,length_cons,List.length_nil,nV]
 show _+(gA l+1)=_
 omega
theorem LM{l:List Thing}{i:Nat}:gA (restAt l i)<=gA l+2:=by
 have hd:=kJ (List.drop_sublist i l)
 have hd2:=kJ (List.drop_sublist (i+1) l)
 unfold restAt
 split
 ·rw [lY]
  have:(nums 9 (.penalty NEVER)).length=2:=rfl
  omega
 ·omega
inductive N_(t:bH)(K:Frag)(vs:List V)(H:Hp)(Q:VK)(E:XK):Prop
 | mk:∀ (g:PrA) (c dxc nl:Addr) (ns:List Int) (k n:Nat) (st:State),vs=[.ref g.a]->q0 t K H g c dxc nl ns k n st->rO t K H g c dxc nl ns k n (SgSpec.step st .ask) Q E->N_ t K vs H Q E
theorem LI(b:Option Nat)(m:List Nat):wY (markNum b) m=markNum (match m.head? with
 | some k=>some k
 | none=>b):=by
 unfold wY
 cases m.head?<;>rfl
theorem M3(b:Option Nat)(m:List Nat):t4 (markNum b) m=markNum (match m.getLast? with
 | some k=>some k
 | none=>b):=by
 unfold t4
 cases m.getLast?<;>rfl
theorem Lm{l:List Thing}{i:Nat}{x:Thing}(h:l[i]?=some x):Je x=penaltyTold l i:=by
 unfold penaltyTold;rw [h];cases x<;>rfl
theorem Q7{xs:List (Nat×Addr×List Addr×List Thing)}{i:Nat}{k:fY}{v:V}(h:(kvx xs)[i]?=some (k,v)):∃ x,xs[i]?=some x/\k=ck x.1/\v=.ref x.2.1:=by
 unfold kvx at h
 rw [getElem?_map] at h
 cases e:xs[i]? with
 | none=>rw [e] at h;cases h
 | some x=>rw [e] at h;cases h;exact ⟨x,rfl,rfl,rfl⟩
theorem Kj{xs:List (Nat×Addr×List Addr×List Thing)}(nd:(xs.map (·.1)).Nodup){x:Nat×Addr×List Addr×List Thing}(hx:x∈xs):eM (kvx xs) (ck x.1)=some (.ref x.2.1):=by
 induction xs with
 | nil=>cases hx
 | cons y r ih =>
  rw [map_cons,List.nodup_cons] at nd
  show eM ((ck y.1,V.ref y.2.1)::kvx r) (ck x.1)=_
  rcases mem_cons.mp hx with rfl|hx
  ·exact eY rfl
  ·rw [eI (fun e=>nd.1 (mem_map.mpr ⟨x,hx,by have:=Sum.inl.inj e;omega⟩))]
   exact ih nd.2 hx
theorem RE{t:bH}(T:b7 K mg t):bL P w K mg base (nG P w) 35 t.ask.f t.ask.fd ["press"] (N_ t K):=by
 refine T.ask.F.C_ rX (fun vs H Q E h=>?_) (fun cdv A outer s H vs Q E hr h=>?_)
 ·obtain ⟨g,c,dxc,nl,ns,k,n,st,rfl,_⟩:=h
  rfl
 ·obtain ⟨g,c,dxc,nl,ns,k,n,st,rfl,B,O⟩:=h
  refine ⟨_,(aB (sv 1 rX.nd (cf (Dz T) T.pE hr aV (aA (aZ T.aU.cl T.bF (pv 0)) (aA (aZ T.aU.cl T.e_ (pv 0)) (aA (aZ T.aU.cl T.eS (pv 0)) aF))))) (aB (a_ (tc bY (pv 1) (aW T.hX)) (aE (aM (bR (aA aG aF)))) aR) (aB (sv 2 rX.nd (cf (uJ T) T.iM hr aV (aA (aZ T.aU.cl T.bF (pv 0)) (aA (pv 1) (aA (aZ T.aU.cl T.e_ (pv 0)) (aA (aZ T.aU.cl T.eS (pv 0)) aF)))))) (aB (sv 3 rX.nd (cf (Nc T) T.packed hr aV (aA (aZ T.aO.cl T.iU (pv 2)) (aA (aZ T.aO.cl T.gY (pv 2)) (aA (aZ T.dF.cl T.jP (aZ T.aU.cl T.e_ (pv 0))) aF))))) (aB (sv 4 rX.nd (cf (tQ T) T.dP hr aV (aA (pv 2) aF))) (aB (bJ (cf (qH T) T.iL hr aX (aA (bR (aA (pv 3) aF)) aF))) (aB (Qj (p7 EU rfl (Po (pv 4)) (i8 (i:=5) rX.nd rfl (Or.inl rfl)) (aE (bJ (cf (qH T) T.iL hr aX (aA (D_ (Dl hr) (pv 4) (pv 5) (fun _ _=>rfl)) aF)))))) (aB (sv 6 rX.nd (cf (D3 T) T.kept hr aX (aA (cf (FZ T) T.j9 hr aV (aA (pv 2) (aA (aZ T.aU.cl T.bF (pv 0)) (aA (pv 1) aF)))) aF))) (aB (sv 7 rX.nd (cf (Gw T) T.lI hr aV (aA (pv 2) (aA (aZ T.aU.cl T.jO (pv 0)) aF)))) (aB (sv 8 rX.nd (bW eN (bW eN (bR (aA aG (aA (cf (FY T) T.j8 hr aV (aA (ix (aZ T.aU.cl T.bF (pv 0)) (pv 1)) aF)) aF))) (pv 7)) (NT (LY rfl) (by rfl) T.Rb Qk (aA (pv 4) aF)))) (aB (bT T.aU.cl T.jO (pv 0) (ix (pv 7) aG)) (aB (bT T.aU.cl T.jT (pv 0) (bR (aA (pv 3) aF))) (aB (bT T.aU.cl T.fR (pv 0) (pv 4)) (aB (bT T.aU.cl T.bF (pv 0) (pv 6)) (aE (aM (pv 8))))))))))))))))),?_⟩
  obtain ⟨bC,col,pg,sh,as,ps,kvs,X⟩:=B.pr
  have SO:=B.ok.style
  have CO:=B.ok.col
  have hcl:=CO.len
  have hct:=CO.gA
  refine ⟨_,rfl,g.a,g.dx,_,_,rfl,X.obj,rfl,_,rfl,g.a,g.dx,_,_,rfl,X.obj,rfl,_,rfl,g.a,g.dx,_,_,rfl,X.obj,rfl,col,bC,g.cl,as,st.column,st.style,rfl,cT.of X.mW,X.l_,CO,SO,X.AX,⟨kvs,X.xcl,X.cld⟩,fun H1 s1=>?_⟩
  have es:SgSpec.step st .ask=(match (through st.style 0 (fresh st.style) none st.column).map (handedAt st.style st.before st.column) with
   | none=>(st,SgSpec.one 0)
   | some h=>if right DEEP h.page=true/\SgSpec.keeps h.rest=true/\h.classes.all (fun (x:Nat×List Thing)=>x.2.all (right DEEP))=true then
    (⟨st.style,h.rest,h.last,[h.page],h.classes,st.pages+1⟩,.nums ([1,h.penalty,markNum h.top,markNum h.first,markNum h.last]++h.classes.map fun (x:Nat×List Thing)=>(x.1:Int)))
    else (st,SgSpec.no 6)):=rfl
  cases eth:through st.style 0 (fresh st.style) none st.column with
  | none =>
   rw [eth] at es
   refine ⟨_,rfl,rfl,_,rfl,aQ (fun _=>?_) fun z=>absurd z (by rw [a8];decide)⟩
   exact ⟨(sz 1),fun q nq=>O.done (s':=st) (l:=[0]) es s1.fC (B.pr.same s1) (B.ca.same s1) q nq⟩
  | some i =>
   rw [eth] at es
   have hi:i<st.column.length:=by
    have:=Aa (fun x e=>by cases e) eth
    omega
   refine ⟨_,rfl,rfl,_,rfl,aQ (fun z=>?_) fun _=>?_⟩
   ·rw [a8,decide_eq_true_eq] at z
    have:(i:Int)=-1:=z
    omega
   have X1:=X.same s1
   refine ⟨_,rfl,g.a,g.dx,_,_,rfl,X1.obj,rfl,_,rfl,_,rfl,g.a,g.dx,_,_,rfl,X1.obj,rfl,_,rfl,g.a,g.dx,_,_,rfl,X1.obj,rfl,col,bC,g.cl,as,st.column,i,st.style,rfl,cT.of X1.mW,X1.l_,by omega,CO,SO,X1.AX,⟨kvs,X1.xcl,X1.cld⟩,fun H2 pa s2 fr2 ft2 A2 hc2=>?_⟩
   have u2:aK H H2:=s1.trans s2
   have PG:=kF st.style st.column i (by omega)
   have BD:=uI SO CO i (by omega)
   have BL:=bdL SO CO (i:=i) (by omega)
   have OS:=Hq SO CO i (by omega)
   have htk:=kJ (List.take_sublist i st.column)
   have htt:=BD.tt
   have htw:=BD.tw
   have em:=PG.marks
   have es:SgSpec.step st .ask=if right DEEP (vpack (sofarAt st.style st.column i).things (.to (sofarAt st.style st.column i).goal) st.style.most).1=true/\SgSpec.keeps ((sofarAt st.style st.column i).waiting++restAt st.column i)=true/\(dS (sofarAt st.style st.column i)).all (fun (x:Nat×List Thing)=>x.2.all (right DEEP))=true then
    (⟨st.style,(sofarAt st.style st.column i).waiting++restAt st.column i,(match (marksOf (st.column.take i)).getLast? with
     | some k=>some k
     | none=>st.before),[(vpack (sofarAt st.style st.column i).things (.to (sofarAt st.style st.column i).goal) st.style.most).1],dS (sofarAt st.style st.column i),st.pages+1⟩,.nums ([1,penaltyTold st.column i,markNum st.before,markNum (match (marksOf (st.column.take i)).head? with
     | some k=>some k
     | none=>st.before),markNum (match (marksOf (st.column.take i)).getLast? with
     | some k=>some k
     | none=>st.before)]++(dS (sofarAt st.style st.column i)).map fun (x:Nat×List Thing)=>(x.1:Int)))
    else (st,SgSpec.no 6):=es
   replace A2:a9 t H2 st.style (sofarAt st.style st.column i) bC g.cl (sofarAt st.style st.column i).begun (hasSolid (sofarAt st.style st.column i).things) pa:=A2
   generalize sofarAt st.style st.column i=p at *
   have no6:(right DEEP (vpack p.things (.to p.goal) st.style.most).1=false\/SgSpec.keeps (p.waiting++restAt st.column i)=false\/(dS p).all (fun (x:Nat×List Thing)=>x.2.all (right DEEP))=false)->∀ H' e,bG [g.a,g.cl,c] H H'->cQ t H' g st n->cD t K H' c dxc nl ns k->E (.ref t.fK) e H':=by
    intro hb H' e W' P' C'
    have es:SgSpec.step st .ask=(st,SgSpec.no 6):=by
     rw [es,if_neg]
     rintro ⟨h1,h2,h3⟩
     rcases hb with h|h|h
     ·rw [h1] at h;cases h
     ·rw [h2] at h;cases h
     ·rw [h3] at h;cases h
    exact O.fail (z:=6) es W' P' C' e
   obtain ⟨ths,t1,t2⟩:=A2.oth
   obtain ⟨sdx,stl,y1,y2⟩:=(X1.same s2).AX
   refine ⟨_,rfl,pa.a,pa.dx,_,_,rfl,A2.obj,rfl,_,rfl,pa.a,pa.dx,_,_,rfl,A2.obj,rfl,_,rfl,g.a,g.dx,_,_,rfl,(X1.same s2).obj,rfl,bC,sdx,_,_,rfl,y1,rfl,pa.th,ths,p.things,p.goal,st.style.most,rfl,cT.of t1,t2,OS,BD.ft,by omega,fun bx H3 s3 nbx hbx=>?_⟩
   have u3:aK H H3:=u2.trans s3
   have A3:=A2.same s3
   obtain ⟨avx,hav⟩:=B.av
   refine ⟨_,rfl,st.style,p,bC,g.cl,_,_,pa,g.av,rfl,A3,PG.nodup,by omega,fun b hb zz=>(by have:=ft2 b hb;rw [zz,s1 _ _ hav] at this;cases this),fun d H4 s4 nd hd4=>?_⟩
   have u4:aK H H4:=u3.trans s4
   have hbx4:=hbx.fix (t:=t) s4.fix
   refine ⟨_,rfl,(sz 1),fun l5 n5=>?_⟩
   generalize e5:a6 H4 l5 _=H5
   have s5:aK H4 H5:=e5▸aK.new n5
   have f5:H5 l5=some (.lst ([bx].map V.ref)):=e5▸aD
   have u5:aK H H5:=u4.trans s5
   have tb:gA [(vpack p.things (.to p.goal) st.style.most).1]=10+gA p.things:=by rw [nR,Kr _ _ BD.ft]
   refine ⟨l5,[bx],[_],rfl,cT.of f5,aL.one (hbx4.fix s5.fix),by rw [tb];omega,fun hr H6 s6=>?_,fun hr H6 e s6=>?_⟩
   rotate_left
   ·have u6:=u5.trans s6
    refine no6 (.inl ?_) H6 (some e) u6.fC (B.pr.same u6) (B.ca.same u6)
    rw [all_cons,List.all_nil,Bool.and_true] at hr
    exact hr
   rw [all_cons,List.all_nil,Bool.and_true] at hr
   have u6:aK H H6:=u5.trans s6
   have s46:aK H4 H6:=s5.trans s6
   obtain ⟨xs,d1,d2,d3,d4⟩:=hd4
   have d6:H6 d=some (.dK (kvx xs)):=s46 _ _ d1
   have ndH:H d=none:=u3.free nd
   have xtot:∀ x∈xs,gA x.2.2.2<=100000:=by
    intro x hx
    have hm:(x.1,x.2.2.2)∈dS p:=by rw [d2];exact mem_map.mpr ⟨x,hx,rfl⟩
    have ndf:(((p.classes.filter fun (x:OnPage)=>!x.things.isEmpty).map fun (x:OnPage)=>(x.cls,x.things)).map (·.1)).Nodup:=by
     rw [List.map_map]
     exact PG.nodup.sublist (List.Sublist.map _ List.filter_sublist)
    have:=((mE ndf).2 _).mp hm
    obtain ⟨o,ho,eo⟩:=mem_map.mp this
    have hto:=BD.tc o (List.mem_filter.mp ho).1
    have:o.things=x.2.2.2:=(Prod.mk.inj eo).2
    rw [<-this];omega
   refine ⟨d,_,d6,trivial,fun od=>?_⟩
   generalize eL:a6 H6 d _=HL
   have fL:HL d=some (.mH od (.dK (kvx xs))):=eL▸aD
   have kL:∀ b o,H6 b=some o->b≠d->HL b=some o:=fun b o e n=>by rw [<-eL,aJ n];exact e
   have uL:∀ b o,H b=some o->HL b=some o:=fun b o e=>kL b o (u6 b o e) (aH e ndH)
   refine ⟨_,rfl,d,od,rfl,.inl ⟨_,fL,OM (d:=d) (o:=od) (kvs:=kvx xs) (fun j σ H'=>∃ v5:Option V,σ=[some (.ref g.a),some (.int (i:Int)),some (.ref pa.a),some (.ref bx),some (.ref d),v5,none,none,none]/\aK HL H'/\∀ x∈xs.take j,x.2.2.2.all (right 8)=true)
    ⟨none,rfl,i5 _,fun x hx=>nomatch hx⟩ (fun j σ H' ⟨_,_,s,_⟩=>s _ _ fL) ?_ ?_⟩⟩
   ·rintro j kk v σ H' hj ⟨v5,rfl,sL,hj2⟩
    obtain ⟨x,hx,rfl,rfl⟩:=Q7 hj
    have hxm:=List.mem_of_getElem? hx
    have fL':=sL _ _ fL
    obtain ⟨l1,l2,_⟩:=d4 x hxm
    have nxd:x.2.1≠d:=cX l1 d1 nofun
    have l1':H' x.2.1=some (.lst (x.2.2.1.map V.ref)):=sL _ _ (kL _ _ (s46 _ _ l1) nxd)
    have fxL:iV t H4 H':=fun b o cc e=>sL _ _ (kL _ _ (s46 _ _ e) fun zz=>by subst zz;rw [d1] at e;cases e;exact K_ cc)
    refine ⟨_,rfl,_,rfl,d,.ref x.2.1,rfl,.inl ⟨_,ck x.1,.inr ⟨od,fL'⟩,rfl,(Kj d3 hxm).symm⟩,x.2.1,x.2.2.1,x.2.2.2,rfl,cT.of l1',l2.fix fxL,by have:=xtot x hxm;omega,fun hr2 H8 s8=>⟨_,rfl,sL.trans s8,fun y hy=>?_⟩,fun hr2 H8 e s8=>?_⟩
    ·rw [List.take_add_one,hx] at hy
     rcases mem_append.mp hy with h|h
     ·exact hj2 y h
     ·simp at h;rw [h];exact hr2
    ·have u8:aK H H8:=fun b o e=>s8 _ _ (sL _ _ (uL b o e))
     refine no6 (.inr (.inr ?_)) H8 (some e) u8.fC (B.pr.same u8) (B.ca.same u8)
     rw [d2,List.all_eq_false]
     exact ⟨_,mem_map.mpr ⟨x,hxm,rfl⟩,by show ¬ (x.2.2.2.all (right 8))=true;rw [hr2];decide⟩
   ·rintro σ H' ⟨v5,rfl,sL,hall⟩
    have fL':=sL _ _ fL
    refine ⟨fL',?_⟩
    have hall:(dS p).all (fun (x:Nat×List Thing)=>x.2.all (right DEEP))=true:=by
     rw [d2,all_eq_true]
     intro y hy
     obtain ⟨x,hx,rfl⟩:=mem_map.mp hy
     refine hall x ?_
     rw [List.take_of_length_le (by unfold kvx;rw [length_map];exact Nat.le_refl _)]
     exact hx
    generalize e7:a6 H' d _=H7
    have s67:aK H6 H7:=by
     intro b o e
     by_cases zz:b=d
     ·subst zz;rw [d6] at e;rw [<-e7,aD];exact e
     ·rw [<-e7,aJ zz];exact sL _ _ (kL _ _ e zz)
    have u7:aK H H7:=u6.trans s67
    have s47:aK H4 H7:=s46.trans s67
    have s37:aK H3 H7:=s4.trans s47
    have A7:=A3.same s37
    have X7:=X.same u7
    refine ⟨_,rfl,_,rfl,g.a,g.dx,_,_,rfl,X7.obj,rfl,_,rfl,col,as,st.column,i,st.style,p,bC,g.cl,_,_,pa,rfl,A7,cT.of X7.mW,X7.l_,hi,by omega,by have:=BL.waiting;omega,fun lc cs H8 s8 nlc f8 T8=>?_⟩
    have u8:aK H H8:=u7.trans s8
    refine ⟨lc,cs,_,rfl,cT.of f8,T8,?_,fun hk H9 s9=>?_,fun hk H9 e s9=>?_⟩
    ·rw [eT]
     have:=LM (l:=st.column) (i:=i)
     omega
    rotate_left
    ·have u9:=u8.trans s9
     exact no6 (.inr (.inl hk)) H9 e u9.fC (B.pr.same u9) (B.ca.same u9)
    rw [if_pos ⟨hr,hk,hall⟩] at es
    have u9:aK H H9:=u8.trans s9
    have s79:aK H7 H9:=s8.trans s9
    have A9:=A7.same s79
    have X9:=X.same u9
    refine ⟨_,rfl,_,rfl,g.a,g.dx,_,_,rfl,X9.obj,rfl,_,st.style,p,bC,g.cl,_,_,pa,rfl,A9,by have:=BL.things;omega,fun lm H10 s10 nlm f10=>?_⟩
    rw [em,LI,M3] at f10
    have u10:aK H H10:=u9.trans s10
    have X10:=X.same u10
    have hx:st.column[i]?=some st.column[i]:=getElem?_eq_getElem hi
    generalize st.column[i]=x at hx
    obtain ⟨b,hb,hB⟩:=X10.l_.get' hx
    refine ⟨_,rfl,g.a,g.dx,_,_,rfl,X10.obj,rfl,_,rfl,col,_,_,_,rfl,rfl,cT.of X10.mW,rP hb,b,x,rfl,hB,(sz 2),fun l11 n11=>?_⟩
    rw [Lm hx]
    generalize e11:a6 H10 l11 _=H11
    have s11:aK H10 H11:=e11▸aK.new n11
    have f11:H11 l11=some _:=e11▸aD
    refine ⟨_,rfl,l11,lm,_,_,rfl,rfl,.inl f11,.inl (s11 _ _ f10),(sz 5),fun l12 n12=>?_⟩
    generalize e12:a6 H11 l12 _=H12
    have s12:aK H11 H12:=e12▸aK.new n12
    have f12:H12 l12=some _:=e12▸aD
    have s7_12:aK H7 H12:=s79.trans (s10.trans (s11.trans s12))
    have d12:H12 d=some (.dK (kvx xs)):=s7_12 _ _ (s67 _ _ d6)
    have hxl:xs.length<=10000:=by
     have hE:xs.length=(dS p).length:=by rw [d2,length_map]
     have ndf:(((p.classes.filter fun (x:OnPage)=>!x.things.isEmpty).map fun (x:OnPage)=>(x.cls,x.things)).map (·.1)).Nodup:=by
      rw [List.map_map]
      exact PG.nodup.sublist (List.Sublist.map _ List.filter_sublist)
     have hsub:∀ y∈xs.map (·.1),y∈pa.cs.map (·.1):=by
      intro y hy
      obtain ⟨x,hx,rfl⟩:=mem_map.mp hy
      have hm:(x.1,x.2.2.2)∈dS p:=by rw [d2];exact mem_map.mpr ⟨x,hx,rfl⟩
      obtain ⟨o,ho,eo⟩:=mem_map.mp (((mE ndf).2 _).mp hm)
      have:=A9.cov o (List.mem_filter.mp ho).1
      rw [(Prod.mk.inj eo).1] at this
      exact this
     have:=HR d3 hsub
     rw [length_map,length_map] at this
     omega
    refine ⟨_,rfl,d,kvx xs,rfl,.inl d12,fun l13 n13=>?_⟩
    generalize e13:a6 H12 l13 _=H13
    have s13:aK H12 H13:=e13▸aK.new n13
    have f13:H13 l13=some _:=e13▸aD
    refine ⟨l12,l13,_,_,rfl,rfl,.inl (s13 _ _ f12),.inl f13,?_,fun l14 n14=>?_⟩
    ·rw [length_map]
     unfold kvx
     rw [length_map,sizeLine_eq]
     show 5+_<=_
     omega
    generalize e14:a6 H13 l14 _=H14
    have s14:aK H13 H14:=e14▸aK.new n14
    have u12:aK H H12:=u10.trans (s11.trans s12)
    have u13:aK H H13:=u12.trans s13
    have u14:aK H H14:=u13.trans s14
    have s10_14:aK H10 H14:=s11.trans (s12.trans (s13.trans s14))
    have ef:H14 l14=some (.lst (([1,penaltyTold st.column i,markNum st.before,markNum (match (marksOf (st.column.take i)).head? with
     | some k=>some k
     | none=>st.before),markNum (match (marksOf (st.column.take i)).getLast? with
     | some k=>some k
     | none=>st.before)]++(dS p).map fun (x:Nat×List Thing)=>(x.1:Int)).map V.int)):=by
     rw [<-e14,aD,d2]
     have:(kvx xs).map (fun q=>kV q.1)=((xs.map fun x=>(x.1,x.2.2.2)).map fun (x:Nat×List Thing)=>(x.1:Int)).map V.int:=by
      unfold kvx
      rw [List.map_map,List.map_map,List.map_map];rfl
     rw [this,map_append]
     rfl
    have X14:=X.same u14
    refine ⟨_,rfl,lm,_,_,_,rfl,rfl,cT.of (s10_14 _ _ f10),b6 (j:=2) rfl,_,rfl,g.a,g.dx,_,rfl,X14.obj,sm 6,?_⟩
    generalize e15:a6 H14 g.a _=H15
    have v15:bG [g.a] H14 H15:=e15▸bG.chg (by simp)
    have o15:H15 g.a=some (.ins t.cR g.dx (prF bC g.cl col (markNum (match (marksOf (st.column.take i)).getLast? with
     | some k=>some k
     | none=>st.before)) pg sh)):=by rw [<-e15,aD];rfl
    refine ⟨_,rfl,(sz 1),fun lp nlp=>⟨_,rfl,g.a,g.dx,_,rfl,aK.new nlp _ _ o15,sm 6,?_⟩⟩
    have nlpa:lp≠g.a:=Ne.symm (aH o15 nlp)
    refine ⟨_,rfl,_,rfl,g.a,g.dx,_,rfl,aD,sm 6,?_⟩
    rw [bU]
    refine ⟨_,rfl,_,rfl,g.a,g.dx,_,rfl,aD,sm 6,?_⟩
    rw [bU]
    generalize e16:a6 (a6 H15 lp _) g.a _=H16
    have v16:bG [g.a] H15 H16:=e16▸(aK.new nlp).fC.trans (bG.chg (by simp))
    have o16:H16 g.a=some (.ins t.cR g.dx (prF bC g.cl lc (markNum (match (marksOf (st.column.take i)).getLast? with
     | some k=>some k
     | none=>st.before)) lp d)):=by rw [<-e16,aD];rfl
    have fp:H16 lp=some (.lst ([bx].map V.ref)):=by rw [<-e16,aJ nlpa,aD];rfl
    have v:bG [g.a] H14 H16:=v15.trans v16
    have fx:iV t H14 H16:=v.fix fun b hb o e=>by simp at hb;subst hb;rw [X14.obj] at e;cases e;exact T.mO
    have na:∀ {b:Addr} {o:HO},H14 b=some o->(∀ C dx fs,o≠.ins C dx fs)->H16 b=some o:=fun e hn=>v _ _ e (by simp;intro zz;subst zz;rw [X14.obj] at e;cases e;exact hn _ _ _ rfl)
    have W:bG [g.a,g.cl,c] H H16:=u14.fC.trans (v.mono (by simp))
    have s8_14:aK H8 H14:=s9.trans (s10.trans s10_14)
    have s4_14:aK H4 H14:=s47.trans (s79.trans (s10.trans s10_14))
    refine ⟨_,rfl,?_⟩
    refine O.at_ es W ⟨bC,lc,lp,d,cs,[bx],kvs,⟨⟨X14.AX.fix fx,na X14.xcl nofun,X14.cld.fix fx,X14.kn,na (s8_14 _ _ f8) nofun,(T8.fix s8_14.fix).fix fx,fp,aL.one ((hbx4.fix s4_14.fix).fix fx),?_,?_,?_⟩,o16⟩⟩ ?_ l14 (u13.free n14) (na ef nofun)
    ·refine ⟨xs,na (s4_14 _ _ d1) nofun,d2,d3,fun x hx=>⟨na (s4_14 _ _ (d4 x hx).1) nofun,((d4 x hx).2.1.fix s4_14.fix).fix fx,(d4 x hx).2.2⟩⟩
    ·exact Ne.symm (aH X.xcl ndH)
    ·have h15:=v15 _ _ (u14 _ _ hav) (by simp;exact cX (u14 _ _ hav) X14.obj nofun)
     exact ⟨Ne.symm (aH (u7 _ _ hav) nlc),Ne.symm (aH h15 nlp)⟩
    ·have ca14:=B.ca.same u14
     refine ⟨v _ _ ca14.obj ?_,ca14.nums.fix fx,ca14.len⟩
     simp;exact B.nc
end
theorem AH(p:Sofar)(x:OnPage):(SgPage.setClass p x).classes.length<=p.classes.length+1:=by
 unfold SgPage.setClass
 show (List.filter _ p.classes++[x]).length<=_
 rw [length_append]
 have:=List.length_filter_le (fun (y:OnPage)=>y.cls !=x.cls) p.classes
 simp;omega
theorem K9(s:SgPage.Style)(p:Sofar)(c:Nat)(l:List Thing)(g:Glue)(d k:Int):(iZ s p c l g d k).classes.length<=p.classes.length+1:=by
 have k4:=(dZ s p c).2.2.2.1
 have po:∀ (u:List Thing) (b:Bool),(cK s p c u b).classes.length<=p.classes.length+1:=fun u b=>by
  unfold cK
  refine Nat.le_trans (AH _ _) ?_
  show (aT s p c).classes.length+1<=_
  rw [k4];exact Nat.le_refl _
 unfold iZ
 split
 ·exact po _ _
 ·split
  ·exact po _ _
  ·split
   ·exact po _ _
   ·exact AH _ _
theorem DG{s:SgPage.Style}{l:List Thing}(CO:i_ l):∀ i,i<=l.length->(sofarAt s l i).classes.length<=i
 | 0,_=>Nat.le_refl _
 | i+1,h=>by
  have ih:=DG (s:=s) CO i (by omega)
  have hx:l[i]?=some l[i]:=getElem?_eq_getElem (by omega)
  generalize l[i]=x at hx
  have PG:=kF s l i (by omega)
  rw [iY hx]
  show (put1 s (sofarAt s l i) x).classes.length<=i+1
  generalize sofarAt s l i=p at *
  by_cases hd:dropped x=false\/p.begun=true
  ·by_cases hni:tH x=true
   ·cases x with
    | insert c gg d k inner =>
     show (insertThing s p c inner gg d k).classes.length<=i+1
     rw [rH]
     have:=K9 s p c inner gg d k
     omega
    | _=>cases hni
   ·by_cases hs:cV x=true
    ·obtain ⟨⟨hh,d⟩,hsol⟩:=Option.isSome_iff_exists.mp hs
     have e1:put1 s p x=solidThing s p x hh d:=by
      cases x<;>first|(cases hsol;rfl)|cases hsol
     rw [e1,<-JG hsol]
     have:(wI s p x).classes=p.classes:=by
      unfold wI
      split
      ·rfl
      ·exact (rF p _).2.2.1
     show (wI s p x).classes.length<=_
     rw [this];omega
    ·rw [Cs PG.st (by simpa using hs) (by simpa using hni) hd]
     show (pre p x).classes.length<=_
     rw [(rF p x).2.2.1];omega
  ·have h1:dropped x=true:=by
    cases e:dropped x with
    | true=>rfl
    | false=>exact absurd (.inl e) hd
   have h2:p.begun=false:=by
    cases e:p.begun with
    | false=>rfl
    | true=>exact absurd (.inr e) hd
   rw [Ey h1 h2];omega
theorem tM(x:Nat×List Thing):∀ l:List (Nat×List Thing),(insertClass x l).length=l.length+1
 | []=>rfl
 | y::r=>by
  unfold insertClass
  split
  ·rfl
  ·rw [length_cons,tM x r,length_cons]
theorem Hk:∀ l:List (Nat×List Thing),(l.foldr insertClass []).length=l.length
 | []=>rfl
 | x::r=>by rw [List.foldr_cons,tM,Hk r,length_cons]
theorem G0(p:Sofar):(dS p).length<=p.classes.length:=by
 unfold dS
 rw [Hk,length_map]
 exact List.length_filter_le _ _
structure yE(st:State)(res:State×Answer):Prop where
 ok:G7 res.1
 len:∀ l,res.2=.nums l->l.length<=100010
 ref:∀ z,res.2=.refused z->z=1\/z=3\/z=4\/z=6
theorem Fy{l:List Thing}(h:l.all (right 8)=true):(told l).length=gA l+1:=by
 rw [<-wW (c8 h),length_cons];rfl
theorem Eh{x:List Int}{g:Glue}(h:glueAll x=some g):glueOk g=true:=by
 unfold glueAll at h
 split at h
 ·split at h
  ·rename_i ho;cases h;exact ho
  ·cases h
 ·cases h
theorem MF{st:State}(S:G7 st)(q:SgSpec.Call):yE st (SgSpec.step st q):=by
 have same:∀ a:Answer,(∀ l,a=.nums l->l.length<=100010)->(∀ z,a=.refused z->z=1\/z=3\/z=4\/z=6)->yE st (st,a):=fun a h1 h2=>⟨S,h1,h2⟩
 have no:∀ z,(z=1\/z=3\/z=4\/z=6)->yE st (st,SgSpec.no z):=fun z hz=>same _ (fun l e=>by cases e) fun z' e=>by cases e;exact hz
 have one:∀ {s':State} (k:Int),G7 s'->yE st (s',SgSpec.one k):=fun k h=>⟨h,fun l e=>(by cases e;show 1<=100010;decide),fun z e=>(by cases e)⟩
 have col:∀ {l:List Thing},SgSpec.keeps l=true->G7 { st with column:=l }:=fun h=>⟨S.style,i_.of_keeps h,S.page,S.cls⟩
 have withT:∀ (r:List Int) (f:List Thing->List Thing),yE st (SgSpec.withThings st r f):=fun r f=>by
  unfold SgSpec.withThings
  split
  ·exact no 3 (by simp)
  ·split
   ·rename_i h;exact one _ (col h)
   ·exact no 6 (by simp)
 cases q with
 | style h m top =>
  show yE st (match glueAll top with
   | none=>(st,SgSpec.no 1)
   | some g=>if isLen h=true/\isLen m=true/\0<=m then ({ st with style:=⟨h,m,g,st.style.classes⟩ },SgSpec.one 0) else (st,SgSpec.no 1))
  split
  ·exact no 1 (by simp)
  ·rename_i g hg
   split
   ·rename_i hh
    exact one _ ⟨⟨hh.1,hh.2.1,hh.2.2,Eh hg,S.style.cls⟩,S.col,S.page,S.cls⟩
   ·exact no 1 (by simp)
 | cls c skip f m late =>
  show yE st (match glueAll skip with
   | none=>(st,SgSpec.no 1)
   | some g=>if (c:Int)<=CLASSES/\0<=f/\f<=1000000/\isLen m=true/\late<=1 then ({ st with style:=⟨st.style.height,st.style.most,st.style.top,(c,⟨g,f,m,late==1⟩)::st.style.classes.filter fun (x:Nat×Class)=>x.1 !=c⟩ },SgSpec.one 0) else (st,SgSpec.no 1))
  split
  ·exact no 1 (by simp)
  ·rename_i g hg
   split
   ·rename_i hh
    refine one _ ⟨⟨S.style.height,S.style.most,S.style.QI,S.style.top,fun x hx=>?_⟩,S.col,S.page,S.cls⟩
    rcases mem_cons.mp hx with rfl|hx
    ·exact ⟨Eh hg,hh.2.1,hh.2.2.1,hh.2.2.2.1⟩
    ·exact S.style.cls x (List.mem_filter.mp hx).1
   ·exact no 1 (by simp)
 | put r=>exact withT _ _
 | left r=>exact withT _ _
 | ask =>
  show yE st (match (through st.style 0 (fresh st.style) none st.column).map (handedAt st.style st.before st.column) with
   | none=>(st,SgSpec.one 0)
   | some h=>if right DEEP h.page=true/\SgSpec.keeps h.rest=true/\h.classes.all (fun (x:Nat×List Thing)=>x.2.all (right DEEP))=true then
    (⟨st.style,h.rest,h.last,[h.page],h.classes,st.pages+1⟩,.nums ([1,h.penalty,markNum h.top,markNum h.first,markNum h.last]++h.classes.map fun (x:Nat×List Thing)=>(x.1:Int)))
    else (st,SgSpec.no 6))
  cases eth:through st.style 0 (fresh st.style) none st.column with
  | none=>exact one _ S
  | some i =>
   show yE st (if _ then _ else _)
   split
   ·rename_i hh
    obtain ⟨h1,h2,h3⟩:=hh
    have hi:i<st.column.length:=by
     have:=Aa (fun x e=>by cases e) eth
     omega
    have SO:=S.style
    have CO:=S.col
    have PG:=kF st.style st.column i (by omega)
    have BD:=uI SO CO i (by omega)
    have hcl:=CO.len
    have hct:=CO.gA
    have htk:=kJ (List.take_sublist i st.column)
    have htt:=BD.tt
    refine ⟨⟨SO,i_.of_keeps h2,⟨?_,?_⟩,fun x hx=>⟨?_,?_⟩⟩,fun l e=>?_,fun z e=>by cases e⟩
    ·show List.all [_] _=true
     rw [all_cons,List.all_nil,Bool.and_true];exact h1
    ·show gA [(vpack (sofarAt st.style st.column i).things (.to (sofarAt st.style st.column i).goal) st.style.most).1]<=_
     rw [nR,Kr _ _ BD.ft];omega
    ·exact all_eq_true.mp h3 x hx
    ·have hm:x∈dS (sofarAt st.style st.column i):=hx
     have ndf:((((sofarAt st.style st.column i).classes.filter fun (x:OnPage)=>!x.things.isEmpty).map fun (x:OnPage)=>(x.cls,x.things)).map (·.1)).Nodup:=by
      rw [List.map_map]
      exact PG.nodup.sublist (List.Sublist.map _ List.filter_sublist)
     obtain ⟨o,ho,eo⟩:=mem_map.mp (((mE ndf).2 _).mp hm)
     have hto:=BD.tc o (List.mem_filter.mp ho).1
     rw [<-eo]
     show gA o.things<=_
     omega
    ·cases e
     rw [length_append,length_map]
     have h4:=G0 (sofarAt st.style st.column i)
     have h5:=DG (s:=st.style) CO i (by omega)
     show 5+(dS (sofarAt st.style st.column i)).length<=_
     omega
   ·exact no 6 (by simp)
 | page=>exact same _ (fun l e=>by cases e;rw [Fy S.page.1];have:=S.page.2;omega) fun z e=>by cases e
 | things c =>
  refine same _ (fun l e=>?_) fun z e=>?_
  ·split at e
   ·rename_i x hx
    cases e
    have hm:=List.mem_of_find?_eq_some hx
    rw [Fy (S.cls x hm).1];have:=(S.cls x hm).2;omega
   ·cases e
  ·split at e
   ·cases e
   ·cases e;simp
 | end_ =>
  show yE st (if _ then (if _ then _ else _) else _)
  split
  ·split
   ·rename_i h;exact one _ (col h)
   ·exact no 6 (by simp)
  ·exact one _ S
 | drop=>exact one _ ⟨S.style,⟨rfl,by show gA []<=2000;decide⟩,S.page,S.cls⟩
 | column=>exact same _ (fun l e=>by cases e;rw [Fy S.col.right];have:=S.col.gA;omega) fun z e=>by cases e
 | where_ =>
  refine same _ (fun l e=>?_) fun z e=>?_
  ·split at e
   ·cases e;show 1<=100010;decide
   ·cases e
  ·split at e
   ·cases e
   ·cases e;simp
 | cost i =>
  refine same _ (fun l e=>?_) fun z e=>?_
  ·split at e
   ·cases e
   ·simp only [] at e
    split at e
    ·split at e<;>(cases e;simp)
    ·cases e;show 1<=100010;decide
  ·split at e
   ·cases e;simp
   ·simp only [] at e
    split at e
    ·split at e<;>cases e
    ·cases e
theorem MV{p:Int}{r:List Int}{c:List (List Int)}{t:List Int}(h:Ct p r c t):r.length+1<=(c.map List.length).sum+1+t.length:=by
 cases h with
 | style a b x t=>simp;omega
 | cls a b c d x t=>simp;omega
 | put x t=>simp;omega
 | left x t=>simp;omega
 | bare p t h=>simp;omega
 | one p a t h=>simp;omega
theorem Lr{cs:List (List (List Int))}:∀ {f:Nat} {l:List Int},PyFlat.calls shape f l=some cs->l.length<=(cs.map fun c=>(c.map List.length).sum).sum+cs.length:=by
 induction cs with
 | nil =>
  intro f l h
  cases l with
  | nil=>exact Nat.zero_le _
  | cons p r=>obtain ⟨c,t,cs',f',e,_⟩:=r0 h;cases e
 | cons c0 cs ih =>
  intro f l h
  cases l with
  | nil=>exact Nat.zero_le _
  | cons p r =>
   obtain ⟨c,t,cs',f',e,h1,h2⟩:=r0 h
   cases e
   have e:=MV (CD h1)
   have ih:=ih h2
   rw [length_cons,map_cons,List.sum_cons,length_cons]
   omega
theorem M5{l:List Int}(h:PyWqasax.answers_asked l=true):l.length<=10000:=by
 obtain ⟨cs,h1,h2,_,_⟩:=Dd h
 have e:=Lr h1
 have hs:(cs.map fun c=>(c.map List.length).sum).sum<=6000:=by
  unfold PyWqasax.answers_asked at h
  have e:PyWqasax.calls l=some cs:=by
   show (match PyFlat.calls shape l.length l with|none=>none|some cs=>some (cs.map PyWqasax.whole))=_
   rw [h1]
   exact congrArg some (Om h1)
  rw [e] at h
  simp only [PyFlat.atMost,SgNeutral.asked,Bool.and_eq_true,decide_eq_true_eq,all_eq_true] at h
  exact h.2.2
 omega
section
variable {P:Program}{w:World}{K:Frag}{mg:Str->Option Value}{base:Heap}
theorem rO.mono{t:bH}{H:Hp}{g:PrA}{c dxc nl:Addr}{ns:List Int}{k' n:Nat}{res:State×Answer}{Q:VK}{E:XK}(O:rO t K H g c dxc nl ns k' (n+1) res Q E):rO t K H g c dxc nl ns k' n res Q E :=
 ⟨fun l e H' q u p=>O.nums l e H' q u (p.mono (Nat.le_succ _)),fun z e H' x u p=>O.refused z e H' x u (p.mono (Nat.le_succ _))⟩
theorem M6{p:Int}{r:List Int}{cc:List (List Int)}{tt:List Int}(h:Ct p r cc tt)(ha:SgNeutral.asked1 cc=true):∃ q,SgNeutral.specCall cc=some q:=by
 cases h with
 | style a b x t=>exact ⟨_,rfl⟩
 | cls a b c d x t=>exact ⟨_,rfl⟩
 | put x t=>exact ⟨_,rfl⟩
 | left x t=>exact ⟨_,rfl⟩
 | bare p t h=>rcases h with rfl|rfl|rfl|rfl|rfl|rfl<;>exact ⟨_,rfl⟩
 | one p a t h=>rcases h with rfl|rfl<;>exact ⟨_,rfl⟩
inductive uP(t:bH)(K:Frag)(vs:List V)(H:Hp)(Q:VK)(E:XK):Prop
 | mk:∀ (g:PrA) (c dxc nl:Addr) (ns:List Int) (k n:Nat) (st:State) (p:Int) (cc:List (List Int)) (tt:List Int) (q:SgSpec.Call),vs=[.ref g.a,.ref c,.int p]->q0 t K H g c dxc nl ns k n st->k<=ns.length->n<1000->Ct p (ns.drop k) cc tt->SgNeutral.asked1 cc=true->SgNeutral.specCall cc=some q->(∀ k',ns.drop k'=tt->k<=k'->k'<=ns.length->rO t K H g c dxc nl ns k' (n+1) (SgSpec.step st q) Q E)->uP t K vs H Q E
theorem qP{ns a t:List Int}{k:Nat}(e:ns.drop k=a++t)(hk:k<=ns.length):ns.drop (k+a.length)=t/\k+a.length<=ns.length:=let h:=K3 e hk;⟨h.2,h.1⟩
theorem Eg{t:bH}(T:b7 K mg t):bL P w K mg base (nG P w) 36 t.gS.f t.gS.fd ["press","told","number"] (uP t K):=by
 refine T.gS.F.C_ FR (fun vs H Q E h=>?_) (fun cdv A outer s H vs Q E hr h=>?_)
 ·obtain ⟨g,c,dxc,nl,ns,k,n,st,p,cc,tt,q,rfl,_⟩:=h
  rfl
 ·obtain ⟨g,c,dxc,nl,ns,k,n,st,p,cc,tt,q,rfl,B,hk,hn,hT,ha,hq,O⟩:=h
  refine ⟨_,(aB (a_ (tc bY (pv 2) aG) (aE (aM (cf (G8 T) T.lG hr aX (aA (pv 0) (aA (pv 1) aF))))) aR) (aB (a_ (tc bY (pv 2) aG) (aE (aM (cf (F4 T) T.lJ hr aX (aA (pv 0) (aA (pv 1) aF))))) aR) (aB (a_ (tc bY (pv 2) aG) (aE (aM (cf (QU T) T.put hr aX (aA (pv 0) (aA (pv 1) aF))))) aR) (aB (a_ (tc bY (pv 2) aG) (aE (aM (cf (Qw T) T.left hr aX (aA (pv 0) (aA (pv 1) aF))))) aR) (aB (a_ (tc bY (pv 2) aG) (aE (aM (cf (RE T) T.ask hr aX (aA (pv 0) aF)))) aR) (aB (a_ (tc bY (pv 2) aG) (aE (aM (cf (eA T) T.cM hr aV (aA (aZ T.aU.cl T.jT (pv 0)) aF)))) aR) (aB (a_ (tc bY (pv 2) aG) (aE (aM (cf (FP T) T.kE hr aX (aA (pv 0) (aA (pv 1) aF))))) aR) (aB (a_ (tc bY (pv 2) aG) (aE (aM (cf (Ma T) T.w8 hr aX (aA (pv 0) aF)))) aR) (aB (a_ (tc bY (pv 2) aG) (aE (aM (cf (Fp T) T.j_ hr aV (aA (pv 0) aF)))) aR) (aB (a_ (tc bY (pv 2) aG) (aE (aM (cf (eA T) T.cM hr aV (aA (aZ T.aU.cl T.bF (pv 0)) aF)))) aR) (aB (a_ (tc bY (pv 2) aG) (aE (aM (cf (GD T) T.lL hr aX (aA (pv 0) aF)))) aR) (aB (a_ (tc bY (pv 2) aG) (aE (aM (cf (JS T) T.nY hr aX (aA (pv 0) (aA (pv 1) aF))))) aR) (aE Nn))))))))))))),?_⟩
  obtain ⟨bC,col,pg,sh,as,ps,kvs,X⟩:=B.pr
  generalize er:ns.drop k=r at hT
  cases hT with
  | style a b x t' =>
   cases hq
   obtain ⟨o1,o2⟩:=qP (a:=[a,b,(x.length:Int)]++x) (t:=tt) (by rw [er];simp) hk
   have el:k+([a,b,(x.length:Int)]++x).length=k+3+x.length:=by simp;omega
   rw [el] at o1 o2
   refine ⟨_,rfl,rfl,_,rfl,aQ (fun _=>?_) fun z=>absurd z (by rw [a8];decide)⟩
   exact ⟨_,rfl,_,rfl,g,c,dxc,nl,ns,k,n,st,a,b,x,tt,rfl,B,er,O _ o1 (by omega) o2⟩
  | cls a b d e x t' =>
   cases hq
   have ha:(decide (0<=a)&&decide (0<=e))=true:=ha
   rw [Bool.and_eq_true,decide_eq_true_eq,decide_eq_true_eq] at ha
   obtain ⟨a',rfl⟩:=Int.eq_ofNat_of_zero_le ha.1
   obtain ⟨e',rfl⟩:=Int.eq_ofNat_of_zero_le ha.2
   obtain ⟨o1,o2⟩:=qP (a:=[(a':Int),b,d,(e':Int),(x.length:Int)]++x) (t:=tt) (by rw [er];simp) hk
   have el:k+([(a':Int),b,d,(e':Int),(x.length:Int)]++x).length=k+5+x.length:=by simp;omega
   rw [el] at o1 o2
   refine ⟨_,rfl,rfl,_,rfl,aQ (fun z=>absurd z (by rw [a8];decide)) fun _=>⟨_,rfl,rfl,_,rfl,aQ (fun _=>?_) fun z=>absurd z (by rw [a8];decide)⟩⟩
   exact ⟨_,rfl,_,rfl,g,c,dxc,nl,ns,k,n,st,a',e',b,d,x,tt,rfl,B,hn,er,O _ o1 (by omega) o2⟩
  | put x t' =>
   cases hq
   obtain ⟨o1,o2⟩:=qP (a:=[(x.length:Int)]++x) (t:=tt) (by rw [er];simp) hk
   have el:k+([(x.length:Int)]++x).length=k+1+x.length:=by simp;omega
   rw [el] at o1 o2
   refine ⟨_,rfl,rfl,_,rfl,aQ (fun z=>absurd z (by rw [a8];decide)) fun _=>⟨_,rfl,rfl,_,rfl,aQ (fun z=>absurd z (by rw [a8];decide)) fun _=>⟨_,rfl,rfl,_,rfl,aQ (fun _=>?_) fun z=>absurd z (by rw [a8];decide)⟩⟩⟩
   exact ⟨_,rfl,_,rfl,g,c,dxc,nl,ns,k,n,st,x,tt,rfl,B,er,(O _ o1 (by omega) o2).mono⟩
  | left x t' =>
   cases hq
   obtain ⟨o1,o2⟩:=qP (a:=[(x.length:Int)]++x) (t:=tt) (by rw [er];simp) hk
   have el:k+([(x.length:Int)]++x).length=k+1+x.length:=by simp;omega
   rw [el] at o1 o2
   refine ⟨_,rfl,rfl,_,rfl,aQ (fun z=>absurd z (by rw [a8];decide)) fun _=>⟨_,rfl,rfl,_,rfl,aQ (fun z=>absurd z (by rw [a8];decide)) fun _=>⟨_,rfl,rfl,_,rfl,aQ (fun z=>absurd z (by rw [a8];decide)) fun _=>⟨_,rfl,rfl,_,rfl,aQ (fun _=>?_) fun z=>absurd z (by rw [a8];decide)⟩⟩⟩⟩
   exact ⟨_,rfl,_,rfl,g,c,dxc,nl,ns,k,n,st,x,tt,rfl,B,er,(O _ o1 (by omega) o2).mono⟩
  | bare p t' hp =>
   have O:=(O k er (Nat.le_refl _) hk).mono
   rcases hp with rfl|rfl|rfl|rfl|rfl|rfl
   ·cases hq
    refine ⟨_,rfl,rfl,_,rfl,aQ (fun z=>absurd z (by rw [a8];decide)) fun _=>⟨_,rfl,rfl,_,rfl,aQ (fun z=>absurd z (by rw [a8];decide)) fun _=>⟨_,rfl,rfl,_,rfl,aQ (fun z=>absurd z (by rw [a8];decide)) fun _=>⟨_,rfl,rfl,_,rfl,aQ (fun z=>absurd z (by rw [a8];decide)) fun _=>⟨_,rfl,rfl,_,rfl,aQ (fun _=>?_) fun z=>absurd z (by rw [a8];decide)⟩⟩⟩⟩⟩
    exact ⟨_,rfl,g,c,dxc,nl,ns,k,n,st,rfl,B,O⟩
   ·cases hq
    refine ⟨_,rfl,rfl,_,rfl,aQ (fun z=>absurd z (by rw [a8];decide)) fun _=>⟨_,rfl,rfl,_,rfl,aQ (fun z=>absurd z (by rw [a8];decide)) fun _=>⟨_,rfl,rfl,_,rfl,aQ (fun z=>absurd z (by rw [a8];decide)) fun _=>⟨_,rfl,rfl,_,rfl,aQ (fun z=>absurd z (by rw [a8];decide)) fun _=>⟨_,rfl,rfl,_,rfl,aQ (fun z=>absurd z (by rw [a8];decide)) fun _=>⟨_,rfl,rfl,_,rfl,aQ (fun _=>?_) fun z=>absurd z (by rw [a8];decide)⟩⟩⟩⟩⟩⟩
    exact ⟨_,rfl,g.a,g.dx,_,_,rfl,X.obj,rfl,pg,ps,st.page,rfl,cT.of X.xpg,X.pgT,by have:=B.ok.page.2;omega,fun q nq=>by
     rw [wW (c8 B.ok.page.1)]
     exact O.done (s':=st) (l:=told st.page) rfl bG.refl B.pr B.ca q nq⟩
   ·cases hq
    refine ⟨_,rfl,rfl,_,rfl,aQ (fun z=>absurd z (by rw [a8];decide)) fun _=>⟨_,rfl,rfl,_,rfl,aQ (fun z=>absurd z (by rw [a8];decide)) fun _=>⟨_,rfl,rfl,_,rfl,aQ (fun z=>absurd z (by rw [a8];decide)) fun _=>⟨_,rfl,rfl,_,rfl,aQ (fun z=>absurd z (by rw [a8];decide)) fun _=>⟨_,rfl,rfl,_,rfl,aQ (fun z=>absurd z (by rw [a8];decide)) fun _=>⟨_,rfl,rfl,_,rfl,aQ (fun z=>absurd z (by rw [a8];decide)) fun _=>⟨_,rfl,rfl,_,rfl,aQ (fun z=>absurd z (by rw [a8];decide)) fun _=>⟨_,rfl,rfl,_,rfl,aQ (fun _=>?_) fun z=>absurd z (by rw [a8];decide)⟩⟩⟩⟩⟩⟩⟩⟩
    exact ⟨_,rfl,g,c,dxc,nl,ns,k,n,st,rfl,B,O⟩
   ·cases hq
    refine ⟨_,rfl,rfl,_,rfl,aQ (fun z=>absurd z (by rw [a8];decide)) fun _=>⟨_,rfl,rfl,_,rfl,aQ (fun z=>absurd z (by rw [a8];decide)) fun _=>⟨_,rfl,rfl,_,rfl,aQ (fun z=>absurd z (by rw [a8];decide)) fun _=>⟨_,rfl,rfl,_,rfl,aQ (fun z=>absurd z (by rw [a8];decide)) fun _=>⟨_,rfl,rfl,_,rfl,aQ (fun z=>absurd z (by rw [a8];decide)) fun _=>⟨_,rfl,rfl,_,rfl,aQ (fun z=>absurd z (by rw [a8];decide)) fun _=>⟨_,rfl,rfl,_,rfl,aQ (fun z=>absurd z (by rw [a8];decide)) fun _=>⟨_,rfl,rfl,_,rfl,aQ (fun z=>absurd z (by rw [a8];decide)) fun _=>⟨_,rfl,rfl,_,rfl,aQ (fun _=>?_) fun z=>absurd z (by rw [a8];decide)⟩⟩⟩⟩⟩⟩⟩⟩⟩
    exact ⟨_,rfl,g,c,dxc,nl,ns,k,n,st,E,rfl,B,O⟩
   ·cases hq
    refine ⟨_,rfl,rfl,_,rfl,aQ (fun z=>absurd z (by rw [a8];decide)) fun _=>⟨_,rfl,rfl,_,rfl,aQ (fun z=>absurd z (by rw [a8];decide)) fun _=>⟨_,rfl,rfl,_,rfl,aQ (fun z=>absurd z (by rw [a8];decide)) fun _=>⟨_,rfl,rfl,_,rfl,aQ (fun z=>absurd z (by rw [a8];decide)) fun _=>⟨_,rfl,rfl,_,rfl,aQ (fun z=>absurd z (by rw [a8];decide)) fun _=>⟨_,rfl,rfl,_,rfl,aQ (fun z=>absurd z (by rw [a8];decide)) fun _=>⟨_,rfl,rfl,_,rfl,aQ (fun z=>absurd z (by rw [a8];decide)) fun _=>⟨_,rfl,rfl,_,rfl,aQ (fun z=>absurd z (by rw [a8];decide)) fun _=>⟨_,rfl,rfl,_,rfl,aQ (fun z=>absurd z (by rw [a8];decide)) fun _=>⟨_,rfl,rfl,_,rfl,aQ (fun _=>?_) fun z=>absurd z (by rw [a8];decide)⟩⟩⟩⟩⟩⟩⟩⟩⟩⟩
    exact ⟨_,rfl,g.a,g.dx,_,_,rfl,X.obj,rfl,col,as,st.column,rfl,cT.of X.mW,X.l_,by have:=B.ok.col.gA;omega,fun q nq=>by
     rw [wW (c8 B.ok.col.right)]
     exact O.done (s':=st) (l:=told st.column) rfl bG.refl B.pr B.ca q nq⟩
   ·cases hq
    refine ⟨_,rfl,rfl,_,rfl,aQ (fun z=>absurd z (by rw [a8];decide)) fun _=>⟨_,rfl,rfl,_,rfl,aQ (fun z=>absurd z (by rw [a8];decide)) fun _=>⟨_,rfl,rfl,_,rfl,aQ (fun z=>absurd z (by rw [a8];decide)) fun _=>⟨_,rfl,rfl,_,rfl,aQ (fun z=>absurd z (by rw [a8];decide)) fun _=>⟨_,rfl,rfl,_,rfl,aQ (fun z=>absurd z (by rw [a8];decide)) fun _=>⟨_,rfl,rfl,_,rfl,aQ (fun z=>absurd z (by rw [a8];decide)) fun _=>⟨_,rfl,rfl,_,rfl,aQ (fun z=>absurd z (by rw [a8];decide)) fun _=>⟨_,rfl,rfl,_,rfl,aQ (fun z=>absurd z (by rw [a8];decide)) fun _=>⟨_,rfl,rfl,_,rfl,aQ (fun z=>absurd z (by rw [a8];decide)) fun _=>⟨_,rfl,rfl,_,rfl,aQ (fun z=>absurd z (by rw [a8];decide)) fun _=>⟨_,rfl,rfl,_,rfl,aQ (fun _=>?_) fun z=>absurd z (by rw [a8];decide)⟩⟩⟩⟩⟩⟩⟩⟩⟩⟩⟩
    exact ⟨_,rfl,g,c,dxc,nl,ns,k,n,st,rfl,B,O⟩
  | one p a t' hp =>
   obtain ⟨o1,o2⟩:=qP (a:=[a]) (t:=tt) (by rw [er];rfl) hk
   have O:=(O (k+1) o1 (by omega) o2).mono
   rcases hp with rfl|rfl
   ·cases hq
    have ha:decide (0<=a)=true:=ha
    obtain ⟨a',rfl⟩:=Int.eq_ofNat_of_zero_le (of_decide_eq_true ha)
    refine ⟨_,rfl,rfl,_,rfl,aQ (fun z=>absurd z (by rw [a8];decide)) fun _=>⟨_,rfl,rfl,_,rfl,aQ (fun z=>absurd z (by rw [a8];decide)) fun _=>⟨_,rfl,rfl,_,rfl,aQ (fun z=>absurd z (by rw [a8];decide)) fun _=>⟨_,rfl,rfl,_,rfl,aQ (fun z=>absurd z (by rw [a8];decide)) fun _=>⟨_,rfl,rfl,_,rfl,aQ (fun z=>absurd z (by rw [a8];decide)) fun _=>⟨_,rfl,rfl,_,rfl,aQ (fun z=>absurd z (by rw [a8];decide)) fun _=>⟨_,rfl,rfl,_,rfl,aQ (fun _=>?_) fun z=>absurd z (by rw [a8];decide)⟩⟩⟩⟩⟩⟩⟩
    exact ⟨_,rfl,_,rfl,g,c,dxc,nl,ns,k,n,st,a',tt,rfl,B,er,O⟩
   ·cases hq
    have ha:decide (0<=a)=true:=ha
    obtain ⟨a',rfl⟩:=Int.eq_ofNat_of_zero_le (of_decide_eq_true ha)
    refine ⟨_,rfl,rfl,_,rfl,aQ (fun z=>absurd z (by rw [a8];decide)) fun _=>⟨_,rfl,rfl,_,rfl,aQ (fun z=>absurd z (by rw [a8];decide)) fun _=>⟨_,rfl,rfl,_,rfl,aQ (fun z=>absurd z (by rw [a8];decide)) fun _=>⟨_,rfl,rfl,_,rfl,aQ (fun z=>absurd z (by rw [a8];decide)) fun _=>⟨_,rfl,rfl,_,rfl,aQ (fun z=>absurd z (by rw [a8];decide)) fun _=>⟨_,rfl,rfl,_,rfl,aQ (fun z=>absurd z (by rw [a8];decide)) fun _=>⟨_,rfl,rfl,_,rfl,aQ (fun z=>absurd z (by rw [a8];decide)) fun _=>⟨_,rfl,rfl,_,rfl,aQ (fun z=>absurd z (by rw [a8];decide)) fun _=>⟨_,rfl,rfl,_,rfl,aQ (fun z=>absurd z (by rw [a8];decide)) fun _=>⟨_,rfl,rfl,_,rfl,aQ (fun z=>absurd z (by rw [a8];decide)) fun _=>⟨_,rfl,rfl,_,rfl,aQ (fun z=>absurd z (by rw [a8];decide)) fun _=>⟨_,rfl,rfl,_,rfl,aQ (fun _=>?_) fun z=>absurd z (by rw [a8];decide)⟩⟩⟩⟩⟩⟩⟩⟩⟩⟩⟩⟩
    exact ⟨_,rfl,_,rfl,g,c,dxc,nl,ns,k,n,st,a',tt,rfl,B,er,O⟩
inductive mQ(t:bH)(K:Frag)(vs:List V)(H:Hp)(Q:VK)(E:XK):Prop
 | mk:∀ (g:PrA) (c dxc nl:Addr) (ns:List Int) (k n:Nat) (st:State) (p:Int) (r:List Int) (cc:List (List Int)) (tt:List Int),vs=[.ref g.a,.ref c]->q0 t K H g c dxc nl ns k n st->ns.drop k=p::r->n<1000->Ct p r cc tt->SgNeutral.asked1 cc=true->(∀ k',ns.drop k'=tt->k<k'->k'<=ns.length->∀ H' q,bG [g.a,g.cl,c] H H'->cQ t H' g (SgNeutral.step st cc).1 (n+1)->cD t K H' c dxc nl ns k'->H q=none->H' q=some (.lst ((SgNeutral.step st cc).2.map V.int))->Q (.ref q) H')->mQ t K vs H Q E
theorem vG{t:bH}(T:b7 K mg t):bL P w K mg base (nG P w) 37 t.d_.f t.d_.fd ["press","told"] (mQ t K):=by
 refine T.d_.F.C_ vY (fun vs H Q E h=>?_) (fun cdv A outer s H vs Q E hr h=>?_)
 ·obtain ⟨g,c,dxc,nl,ns,k,n,st,p,r,cc,tt,rfl,_⟩:=h
  rfl
 ·obtain ⟨g,c,dxc,nl,ns,k,n,st,p,r,cc,tt,rfl,B,e0,hn,hT,ha,qq⟩:=h
  refine ⟨_,aE (O7 Ec (fun pn W E' hp=>aE (aM (Ea (Eg T) hr.m rfl T.gS.m T.gS.F.kp T.gS.b .nil hp (aA (pv 0) (aA (pv 1) (aA (dN (pv 1) T.bM.cl T.aY.m (bX T) hr.m T.aY.b .nil aV) aF))))))
   (DZ rfl T.c6.g EA (fun e=>aE (aM (bR (aA (o7 jV aG) aF)))) (DZ rfl T.cC.g EA (fun e=>aE (aM (bR (aA (o7 jV aG) aF)))) (DZ rfl T.fE.g EA (fun e=>aE (aM (bR (aA (o7 jV aG) aF)))) (DZ rfl T.fK.g EA (fun e=>aE (aM (bR (aA (o7 jV aG) aF)))) Ra))))),?_⟩
  obtain ⟨q,hq⟩:=M6 hT ha
  have hlt:k<ns.length:=by
   have:=congrArg List.length e0
   rw [length_drop,length_cons] at this;omega
  have en:SgNeutral.step st cc=((SgSpec.step st q).1,SgNeutral.shown (SgSpec.step st q).2):=by
   unfold SgNeutral.step;rw [hq]
  rw [en] at qq
  refine ⟨_,rfl,_,rfl,_,rfl,c,dxc,_,rfl,B.ca.obj,rfl,c,dxc,nl,ns,k,p,r,rfl,B.ca,e0,fun H1 u1 C1=>?_⟩
  obtain ⟨bC,col,pg,sh,as,ps,kvs,X⟩:=B.pr
  have X1:=X.calls T B.ca.obj u1
  have W1:bG [g.a,g.cl,c] H H1:=u1.mono (by simp)
  obtain ⟨avx,hav⟩:=B.av
  have B1:q0 t K H1 g c dxc nl ns (k+1) n st:=⟨⟨avx,u1 _ _ hav (by simp;exact cX hav B.ca.obj nofun)⟩,⟨_,_,_,_,_,_,_,X1⟩,B.ok,C1,B.nc⟩
  have hT1:Ct p (ns.drop (k+1)) cc tt:=by rw [j0 e0];exact hT
  have A:=MF B.ok q
  refine ⟨g,c,dxc,nl,ns,k+1,n,st,p,cc,tt,q,rfl,B1,by omega,hn,hT1,ha,hq,fun k' hk' hkk hkl=>⟨fun l el H' y u P' C' ny fy=>?_,fun z ez H' e u P' C'=>?_⟩⟩
  ·refine qq k' hk' (by omega) hkl H' y (W1.trans u) P' C' (u1.free C1.obj ny) ?_
   rw [el];exact fy
  ·have fin:∀ (m:Int),m=-(z:Int)->([V.int m].length<=sizeLine/\∀ y,H' y=none->Q (.ref y) (a6 H' y (.lst [V.int m]))):=by
    rintro m rfl
    refine ⟨by show 1<=sizeLine;decide,fun y ny=>?_⟩
    have s6:∀ o,aK H' (a6 H' y o):=fun o=>aK.new ny
    have Wf:=W1.trans u
    refine qq k' hk' (by omega) hkl _ y (Wf.trans (s6 (.lst [.int (-(z:Int))])).fC) (P'.same (s6 _)) (C'.same (s6 _)) (P'.in5 C' Wf ny) ?_
    rw [ez,aD];rfl
   intro σ'
   rcases A.ref z ez with rfl|rfl|rfl|rfl
   ·exact .inl ⟨T.qL,1,rfl,fin _ rfl⟩
   ·exact .inr ⟨T.sI,.inl ⟨T.k_,3,rfl,fin _ rfl⟩⟩
   ·exact .inr ⟨T.tR,.inr ⟨T.u_,.inl ⟨T.xH,4,rfl,fin _ rfl⟩⟩⟩
   ·exact .inr ⟨T.vS,.inr ⟨T.xR,.inr ⟨T.Ag,.inl ⟨T.BQ,6,rfl,fin _ rfl⟩⟩⟩⟩
theorem cQ.avoid{t:bH}{H:Hp}{g:PrA}{st:State}{n:Nat}{xs ys:List V}(h:cQ t H g st n)(e:H g.av=some (.lst xs)):cQ t (a6 H g.av (.lst ys)) g st n:=by
 obtain ⟨bC,col,pg,sh,as,ps,kvs,X⟩:=h
 have fx:∀ o,iV t H (a6 H g.av o):=fun o=>iV.chg e kY
 have k:∀ {b:Addr} {o u:HO},H b=some o->(∀ xs,o≠.lst xs)->a6 H g.av u b=some o:=fun q hn=>by rw [aJ (fun z=>by rw [z,e] at q;cases q;exact hn _ rfl)];exact q
 refine ⟨bC,col,pg,sh,as,ps,kvs,⟨⟨X.AX.fix (fx _),k X.xcl nofun,X.cld.fix (fx _),X.kn,(aJ X.nav.1).trans X.mW,X.l_.fix (fx _),(aJ X.nav.2).trans X.xpg,X.pgT.fix (fx _),?_,X.DH,X.nav⟩,k X.obj nofun⟩⟩
 obtain ⟨zs,h1,h2,h3,h4⟩:=X.xsh
 exact ⟨zs,k h1 nofun,h2,h3,fun x hx=>⟨(aJ (h4 x hx).2.2).trans (h4 x hx).1,(h4 x hx).2.1.fix (fx _),(h4 x hx).2.2⟩⟩
def LX(t:bH)(K:Frag):Sp:=fun vs H Q E=>∃ (nl:Addr) (ns:List Int),vs=[.ref nl]/\JK K H nl (ns.map V.int)/\PyWqasax.answers_asked ns=true/\∀ H' q,aK H H'->H' q=some (.lst ((PyWqasax.answers ns).map V.int))->Q (.ref q) H'
theorem Nb{st:State}(S:G7 st)(cc:List (List Int)):G7 (SgNeutral.step st cc).1/\(SgNeutral.step st cc).2.length<=100010:=by
 unfold SgNeutral.step
 split
 ·rename_i q _
  have A:=MF S q
  refine ⟨A.ok,?_⟩
  show (SgNeutral.shown (SgSpec.step st q).2).length<=_
  cases e:(SgSpec.step st q).2 with
  | nums l=>exact A.len l e
  | refused z=>show 1<=_;decide
 ·exact ⟨S,by show 0<=_;decide⟩
theorem L9{t:bH}(T:b7 K mg t):bL P w K mg base (nG P w) 38 t.answers.f t.answers.fd ["calls"] (LX t K):=by
 refine T.answers.F.C_ oH (fun vs H Q E h=>?_) (fun cdv A outer s H vs Q E hr h=>?_)
 ·obtain ⟨nl,ns,rfl,_⟩:=h
  rfl
 ·obtain ⟨nl,ns,rfl,hN,hA,qq⟩:=h
  refine ⟨_,(aB (sv 1 oH.nd (BE T.aU.make (F_ T) hr.m rfl T.aU.g T.aU.b .nil aV)) (aB (sv 2 oH.nd (cn (GS T) T.bM hr (aA (pv 0) aF))) (aB (sv 3 oH.nd (bR aF)) (aB (BR EU (tc nA (aZ T.bM.cl T.eV (pv 2)) (ln T.f_ (pv 0))) (aB (sv 4 oH.nd (cf (vG T) T.d_ hr aX (aA (pv 1) (aA (pv 2) aF)))) (aB (bJ (yM PySem.F.plainAttrs_list PySem.F.slot_list_append PySem.F.type_list_append j1 (pv 3) (aA (ln T.f_ (pv 4)) aF))) (aE (bJ (yM PySem.F.plainAttrs_list PySem.F.slot_list_extend PySem.F.type_list_extend EO (pv 3) (aA (pv 4) aF))))))) (aE (aM (pv 3))))))),?_⟩
  obtain ⟨cs0,a1,a2,a3,a4⟩:=Dd hA
  have hlen:=M5 hA
  intro pa pdx npa npd npe
  refine ⟨pa,pdx,rfl,aD,fun H1 cl u1 ncl hpo P1=>⟨rfl,?_⟩⟩
  have s0:aK H (a6 (a6 H pdx (.own pa)) pa (.ins t.cR pdx [])):=(aK.new npd).trans (aK.new (by rw [aJ (Ne.symm npe)];exact npa))
  have s1:aK H H1:=fun b o e=>u1 b o (s0 b o e) (by simpa using aH e npa)
  have nclH:H cl=none:=s0.free ncl
  refine ⟨_,rfl,fun c cdx nc ncd nce=>?_⟩
  have s2:aK H1 (a6 (a6 H1 cdx (.own c)) c (.ins t.iX cdx [])):=(aK.new ncd).trans (aK.new (by rw [aJ (Ne.symm nce)];exact nc))
  refine ⟨c,cdx,nl,ns,rfl,aD,(hN.fix (t:=t) s1.fix).fix (t:=t) s2.fix,by omega,fun H2 u2 C2=>⟨rfl,?_⟩⟩
  have s12:aK H1 H2:=fun b o e=>u2 b o (s2 b o e) (by simpa using aH e nc)
  refine ⟨Nat.zero_le _,fun an nan=>?_⟩
  generalize e3:a6 H2 an _=H3
  have s3:aK H2 H3:=e3▸aK.new nan
  have f3:H3 an=some (.lst []):=e3▸aD
  have P3:cQ t H3 ⟨pa,pdx,cl,an⟩ SgSpec.start 0:=(P1 an (s12.free nan)).same (s12.trans s3)
  have C3:=C2.same s3
  have nca:c≠pa:=by
   obtain ⟨o,ho⟩:=hpo
   exact Ne.symm (aH ho nc)
  have nanH:H an=none:=(s1.trans s12).free nan
  have ncH:H c=none:=s1.free nc
  refine ⟨fun m σ H'=>∃ (st:State) (k n f:Nat) (cs:List (List (List Int))) (dn:List Int) (v4:Option V),σ=[some (.ref nl),some (.ref pa),some (.ref c),some (.ref an),v4]/\cQ t H' ⟨pa,pdx,cl,an⟩ st n/\G7 st/\cD t K H' c cdx nl ns k/\k<=ns.length/\PyFlat.calls shape f (ns.drop k)=some cs/\m=cs.length/\n+cs.length<=40/\(∀ x∈cs,SgNeutral.asked1 x=true)/\PyWqasax.answers ns=dn++PyFlat.told (PyFlat.played SgNeutral.step st cs)/\H' an=some (.lst (dn.map V.int))/\dn.length<=n*100020/\aK H H',
   ⟨cs0.length,SgSpec.start,0,0,ns.length,cs0,[],none,rfl,P3,LG,C3,Nat.zero_le _,a1,rfl,by omega,a3,a4,f3,by simp,s1.trans (s12.trans s3)⟩,?_⟩
  rintro m σ H' ⟨st,k,n,f,cs,dn,v4,rfl,Pr,SO,Ca,hk,hcs,rfl,hn,hall,hd,fa,hdl,sH⟩
  refine ⟨_,rfl,c,cdx,_,_,rfl,Ca.obj,rfl,_,rfl,nl,_,rfl,.inl Ca.nums.sq,_,_,rfl,rfl,_,rfl,?_⟩
  show (if decide ((k:Int)<((ns.map V.int).length:Int))=true then _ else _)
  rw [length_map]
  refine aQ (fun z=>?_) fun z=>?_
  ·have hlt:k<ns.length:=by have:=of_decide_eq_true z;omega
   obtain ⟨p,r,er⟩:∃ p r,ns.drop k=p::r:=⟨_,_,Mv hlt⟩
   rw [er] at hcs
   obtain ⟨cc,tt,cs',f',rfl,hc1,hc2⟩:=r0 hcs
   have hT:=CD hc1
   have hacc:=hall cc (by simp)
   rw [length_cons] at hn
   refine ⟨fun σ' H''=>∃ m',m'<(cc::cs').length/\∃ (st:State) (k n f:Nat) (cs:List (List (List Int))) (dn:List Int) (v4:Option V),σ'=[some (.ref nl),some (.ref pa),some (.ref c),some (.ref an),v4]/\cQ t H'' ⟨pa,pdx,cl,an⟩ st n/\G7 st/\cD t K H'' c cdx nl ns k/\k<=ns.length/\PyFlat.calls shape f (ns.drop k)=some cs/\m'=cs.length/\n+cs.length<=40/\(∀ x∈cs,SgNeutral.asked1 x=true)/\PyWqasax.answers ns=dn++PyFlat.told (PyFlat.played SgNeutral.step st cs)/\H'' an=some (.lst (dn.map V.int))/\dn.length<=n*100020/\aK H H'',fun _ _ h=>h,?_⟩
   refine ⟨_,rfl,_,rfl,⟨pa,pdx,cl,an⟩,c,cdx,nl,ns,k,n,st,p,r,cc,tt,rfl,⟨⟨_,fa⟩,Pr,SO,Ca,nca⟩,er,by omega,hT,hacc,fun k' hk' hkk hkl H4 q u4 P4 C4 nq fq=>?_⟩
   obtain ⟨SO',hl'⟩:=Nb SO cc
   have hd2:PyWqasax.answers ns=(dn++(((SgNeutral.step st cc).2.length:Int)::(SgNeutral.step st cc).2))++PyFlat.told (PyFlat.played SgNeutral.step (SgNeutral.step st cc).1 cs'):=by
    rw [hd];simp [PyFlat.played,PyFlat.told]
   generalize (SgNeutral.step st cc)=res at *
   have nan1:an≠pa:=by
    obtain ⟨bC,col,pg,sh,as,ps,kvs,X⟩:=Pr
    exact cX fa X.obj nofun
   have nan2:an≠cl:=by
    obtain ⟨bC,col,pg,sh,as,ps,kvs,X⟩:=Pr
    exact cX fa X.xcl nofun
   have nan3:an≠c:=cX fa Ca.obj nofun
   have fa4:=u4 _ _ fa (by simp only [mem_cons,not_mem_nil,or_false,not_or];exact ⟨nan1,nan2,nan3⟩)
   have nqa:q≠an:=Ne.symm (aH fa nq)
   have s4:aK H H4:=fun b o e=>u4 b o (sH b o e) (by
    simp only [mem_cons,not_mem_nil,or_false,not_or]
    exact ⟨aH e npa,aH e nclH,aH e ncH⟩)
   have hdn:dn.length<=4000800:=by have:n*100020<=40*100020:=Nat.mul_le_mul_right _ (by omega);omega
   refine ⟨_,rfl,.inl ⟨rfl,_,cT.of fa4⟩,_,rfl,q,_,rfl,.inl (cT.of fq),an,_,_,rfl,rfl,fa4,?_,?_⟩
   ·rw [length_map,sizeLine_eq];omega
   generalize e5:a6 H4 an _=H5
   have fa5:H5 an=some _:=e5▸aD
   have k5:∀ b o,H4 b=some o->b≠an->H5 b=some o:=fun b o e n=>by rw [<-e5,aJ n];exact e
   have fq5:H5 q=some _:=k5 _ _ fq nqa
   refine ⟨_,rfl,.inl ⟨rfl,_,cT.of fa5⟩,_,rfl,an,q,_,_,rfl,rfl,fa5,.inl fq5,?_,?_⟩
   ·rw [length_append,length_map,length_map,List.length_singleton,sizeLine_eq];omega
   have k6:∀ b o,H4 b=some o->b≠an->a6 H5 an (.lst (dn.map V.int++[V.int ((res.2.map V.int).length:Int)]++res.2.map V.int)) b=some o:=fun b o e n=>by rw [aJ n];exact k5 b o e n
   have s46:aK H (a6 H5 an (.lst (dn.map V.int++[V.int ((res.2.map V.int).length:Int)]++res.2.map V.int))):=fun b o e=>k6 b o (s4 b o e) (aH e nanH)
   have P6:cQ t (a6 H5 an (.lst (dn.map V.int++[V.int ((res.2.map V.int).length:Int)]++res.2.map V.int))) ⟨pa,pdx,cl,an⟩ res.1 (n+1):=by
    rw [<-e5,bU]
    exact P4.avoid fa4
   have C6:cD t K (a6 H5 an (.lst (dn.map V.int++[V.int ((res.2.map V.int).length:Int)]++res.2.map V.int))) c cdx nl ns k':=⟨k6 _ _ C4.obj (Ne.symm nan3),C4.nums.fix (t:=t) (fun b o cc' e=>k6 b o e fun zz=>by subst zz;rw [fa4] at e;cases e;exact kY cc'),C4.len⟩
   refine ⟨cs'.length,by simp,res.1,k',n+1,f',cs',dn++((res.2.length:Int)::res.2),_,rfl,P6,SO',C6,hkl,by rw [hk'];exact hc2,rfl,by omega,fun x hx=>hall x (by simp [hx]),?_,?_,?_,s46⟩
   ·exact hd2
   ·rw [aD];simp
   ·rw [length_append,length_cons,Nat.succ_mul];omega
  ·have hge:ns.length<=k:=by have:=of_decide_eq_false z;omega
   have hnil:ns.drop k=[]:=List.drop_of_length_le hge
   rw [hnil] at hcs
   have:cs=[]:=by
    cases f<;>(simp [PyFlat.calls] at hcs;exact hcs)
   subst this
   refine ⟨_,rfl,qq H' an sH ?_⟩
   rw [hd]
   have:PyFlat.told (PyFlat.played SgNeutral.step st [])=[]:=rfl
   rw [this,List.append_nil];exact fa
end
end Cp
namespace L2
open PySem PySem.Spec PyProof.Rows
open PySem.W (WData Codec OpenSpec Well WellAll ReadsW ReadsAllW)
mutual
inductive Dw(K:Frag)(H:Hp):V->WData->Prop
 | eX:Dw K H .eX .none
 | bl (b:Bool):Dw K H (.bl b) (.bool b)
 | int (i:Int):Dw K H (.int i) (.int i)
 | str (x:Str):Dw K H (.str x) (.str x)
 | byt (b:Array UInt8):Dw K H (.byt b) (.bytes b.toList)
 | lst {a:Addr} {xs:List V} {ds:List WData}:cT K H a xs->sY K H xs ds->Dw K H (.ref a) (.list ds)
 | tup {a:Addr} {xs:List V} {ds:List WData}:SqT K H a xs->sY K H xs ds->Dw K H (.ref a) (.tuple ds)
inductive sY(K:Frag)(H:Hp):List V->List WData->Prop
 | nil:sY K H [] []
 | cons {v:V} {vs:List V} {d:WData} {ds:List WData}:Dw K H v d->sY K H vs ds->sY K H (v::vs) (d::ds)
end
theorem MQ{K:Frag}{H:Hp}:∀ ns:List Int,sY K H (ns.map V.int) (ns.map WData.int)
 | []=>.nil
 | n::r=>.cons (.int n) (MQ r)
theorem MS{K:Frag}{H:Hp}:∀ (ns:List Int) (xs:List V),sY K H xs (ns.map WData.int)->xs=ns.map V.int
 | [],xs,h=>by
  cases h
  rfl
 | n::r,xs,h=>by
  cases h with
  | cons h1 h2 =>
   cases h1
   rw [MS r _ h2]<;>rfl
section
variable {P:Program}{w:World}{K:Frag}{H:Hp}{h:Heap}{R:PySem.W.WRecords}{cl:Str->Option Addr}
theorem Rc{a:Addr}{xs:List V}(eE:sS P w H h)(KX:K.In h)(q:cT K H a xs):∃ (its:List Value) (o:Obj) (n:Nat),b9 xs its/\h.get? a=some o/\o.cls=.type "list"/\o.data=.seq its.toArray n:=by
 rcases q with q|⟨o,its,n,e,hc,_,hd,_,hv⟩
 ·obtain ⟨_,its,n,hv,e⟩:=(show iF P w H h a (.lst xs) from q.ok eE)
  exact ⟨its,_,n,hv,e,rfl,rfl⟩
 ·exact ⟨its.toList,o,n,hv,KX _ _ e,hc,by simp [hd]⟩
theorem Q_{a:Addr}{xs:List V}(eE:sS P w H h)(KX:K.In h)(q:SqT K H a xs):∃ (its:List Value) (o:Obj) (n:Nat),b9 xs its/\h.get? a=some o/\o.cls=.type "tuple"/\o.data=.seq its.toArray n:=by
 rcases q with q|⟨o,its,n,e,hc,hd,_,hv⟩
 ·obtain ⟨_,its,hv,o,e,hc,n,hd⟩:=(show iF P w H h a (.tup xs) from q.ok eE)
  exact ⟨its,o,n,hv,e,hc,hd⟩
 ·exact ⟨its.toList,o,n,hv,KX _ _ e,hc,by simp [hd]⟩
mutual
theorem Dw.reads(eE:sS P w H h)(KX:K.In h):∀ (d:WData) (v:V) (u:Value),Dw K H v d->cJ v u->∃ as,ReadsW R cl h u d as
 | .none,_,_,x,r=>by
  cases x
  cases r
  exact ⟨_,ReadsW.none⟩
 | .bool b,_,_,x,r=>by
  cases x
  cases r
  exact ⟨_,ReadsW.bool b⟩
 | .int i,_,_,x,r=>by
  cases x
  obtain ⟨t,rfl⟩:=r
  exact ⟨_,ReadsW.int i t⟩
 | .str s,_,_,x,r=>by
  cases x
  obtain ⟨t,rfl⟩:=r
  exact ⟨_,ReadsW.str s t⟩
 | .bytes b,_,_,x,r=>by
  cases x
  obtain ⟨t,rfl⟩:=r
  exact ⟨_,ReadsW.bytes _ t⟩
 | .list ds,_,_,x,r=>by
  cases x with
  | lst hs ha =>
   cases r
   obtain ⟨its,o,n,rv,ho,hc,hd⟩:=Rc eE KX hs
   obtain ⟨as,hr⟩:=Dw.readsAll eE KX ds _ its ha rv
   exact ⟨_,ReadsW.list ho hc hd hr⟩
 | .tuple ds,_,_,x,r=>by
  cases x with
  | tup hs ha =>
   cases r
   obtain ⟨its,o,n,rv,ho,hc,hd⟩:=Q_ eE KX hs
   obtain ⟨as,hr⟩:=Dw.readsAll eE KX ds _ its ha rv
   exact ⟨_,ReadsW.tuple ho hc hd hr⟩
 | .float _,_,_,x,_=>by cases x
 | .dict _,_,_,x,_=>by cases x
 | .bytearray _,_,_,x,_=>by cases x
 | .set _,_,_,x,_=>by cases x
 | .frozenset _,_,_,x,_=>by cases x
 | .obj _ _,_,_,x,_=>by cases x
theorem Dw.readsAll(eE:sS P w H h)(KX:K.In h):∀ (ds:List WData) (vs:List V) (us:List Value),sY K H vs ds->b9 vs us->∃ as,ReadsAllW R cl h us ds as
 | [],_,_,x,r=>by
  cases x
  cases r
  exact ⟨_,ReadsAllW.nil⟩
 | d::ds,_,_,x,r=>by
  cases x with
  | cons h1 h2 =>
   cases r with
   | cons r1 r2 =>
    obtain ⟨as,q1⟩:=Dw.reads eE KX d _ _ h1 r1
    obtain ⟨bs,q2⟩:=Dw.readsAll eE KX ds _ _ h2 r2
    exact ⟨_,ReadsAllW.cons q1 q2⟩
end
end
mutual
def plW:WData->Bool
 | .none=>true
 | .bool _=>true
 | .int _=>true
 | .str _=>true
 | .bytes _=>true
 | .list xs=>DK xs
 | .tuple xs=>DK xs
 | _=>false
def DK:List WData->Bool
 | []=>true
 | x::r=>plW x&&DK r
end
theorem JV{α:Type}{f:α->WData}(h:∀ a,plW (f a)=true):∀ l:List α,DK (l.map f)=true
 | []=>rfl
 | x::r=>by
  show (plW (f x)&&DK (r.map f))=true
  rw [h x,JV h r]<;>rfl
theorem uE:∀ (c:Codec) (a:c.denote),plW (c.enc a)=true
 | .unit,_=>rfl
 | .bool,_=>rfl
 | .int _ _,_=>rfl
 | .nat _ _,_=>rfl
 | .u8,_=>rfl
 | .bytes _ _,_=>rfl
 | .text _ _ _ _,_=>rfl
 | .list _ _ c,a=>JV (fun x=>uE c x) a
 | .pair c d,a=>by
  show (plW (c.enc a.1)&&(plW (d.enc a.2)&&true))=true
  rw [uE c a.1,uE d a.2]<;>rfl
 | .triple c d e,a=>by
  show (plW (c.enc a.1)&&(plW (d.enc a.2.1)&&(plW (e.enc a.2.2)&&true)))=true
  rw [uE c a.1,uE d a.2.1,uE e a.2.2]<;>rfl
 | .option c,none=>rfl
 | .option c,some x=>uE c x
theorem HM:∀ (cs:List Codec) (a:Codec.denoteAll cs),DK (Codec.encAll cs a)=true
 | [],_=>rfl
 | c::cs,a=>by
  show (plW (c.enc a.1)&&DK (Codec.encAll cs a.2))=true
  rw [uE c a.1,HM cs a.2]<;>rfl
theorem zP:∀ {xs:List WData} {d:WData},d∈xs->d.weight<=WData.weightAll xs
 | [],d,h=>absurd h (by simp)
 | x::r,d,h=>by
  show d.weight<=x.weight+1+WData.weightAll r
  rcases mem_cons.mp h with e|m
  ·rw [e]
   omega
  ·have z:=zP m
   omega
def toV:Value->V
 | .none=>.eX
 | .bool b=>.bl b
 | .int i _=>.int i
 | .str x _=>.str x
 | .bytes b _=>.byt b
 | .ref a=>.ref a
 | _=>.eX
def OkU(A:List Addr):Value->Prop
 | .none=>True
 | .bool _=>True
 | .int _ _=>True
 | .str _ _=>True
 | .bytes _ _=>True
 | .ref a=>a∈A
 | _=>False
theorem OkU.mono{A B:List Addr}(h:∀ a∈A,a∈B):∀ {u:Value},OkU A u->OkU B u:=fun {u} x=>by
 cases u with
 | ref a=>exact h a x
 | none=>trivial
 | bool b=>trivial
 | int i t=>trivial
 | str s t=>trivial
 | bytes b t=>trivial
 | _=>exact False.elim x
theorem N6{A:List Addr}{u:Value}(x:OkU A u):cJ (toV u) u:=by
 cases u with
 | ref a=>rfl
 | none=>rfl
 | bool b=>rfl
 | int i t=>exact ⟨t,rfl⟩
 | str s t=>exact ⟨t,rfl⟩
 | bytes b t=>exact ⟨t,rfl⟩
 | _=>exact False.elim x
theorem qO{A:List Addr}:∀ {vs:List Value},(∀ u∈vs,OkU A u)->b9 (vs.map toV) vs
 | [],_=>.nil
 | u::r,h=>.cons (N6 (h u (List.mem_cons_self ..))) (qO fun x hx=>h x (mem_cons_of_mem _ hx))
def sV(h:Heap)(A:List Addr)(a:Addr):Prop:=∃ vs:List Value,vs.length<=sizeLine/\(∀ u∈vs,OkU A u) ∧
 (h.get? a=some { cls:=.type "list",data:=.seq vs.toArray }\/h.get? a=some { cls:=.type "tuple",data:=.seq vs.toArray })
theorem sV.mono{h:Heap}{A B:List Addr}{a:Addr}(k:∀ a∈A,a∈B)(x:sV h A a):sV h B a:=by
 obtain ⟨vs,h1,h2,h3⟩:=x
 exact ⟨vs,h1,fun u hu=>(h2 u hu).mono k,h3⟩
theorem pS{P:Params}{h:Heap}:∀ {vs:List Value} {ds:List WData},WellAll P h vs ds->vs.length=ds.length
 | _,_,.nil=>rfl
 | _,_,.cons _ b=>by
  show _+1=_+1
  rw [pS b]
theorem HX{P:Params}{h:Heap}{v:Value}{ds:List WData}(x:Well P h v (.list ds)):∃ (a:Addr) (vs:List Value),v=.ref a/\h.get? a=some { cls:=.type "list",data:=.seq vs.toArray }/\WellAll P h vs ds:=by
 cases x with
 | list ho hall=>exact ⟨_,_,rfl,ho,hall⟩
theorem Ej{P:Params}{h:Heap}{v:Value}{ds:List WData}(x:Well P h v (.tuple ds)):∃ (a:Addr) (vs:List Value),v=.ref a/\h.get? a=some { cls:=.type "tuple",data:=.seq vs.toArray }/\WellAll P h vs ds:=by
 cases x with
 | tuple ho hall=>exact ⟨_,_,rfl,ho,hall⟩
theorem Ho{P:Params}{h:Heap}{us:List Value}{d:WData}{ds:List WData}(x:WellAll P h us (d::ds)):∃ (v:Value) (vs:List Value),us=v::vs/\Well P h v d/\WellAll P h vs ds:=by
 cases x with
 | cons a b=>exact ⟨_,_,rfl,a,b⟩
theorem Mr{n:Nat}(h:n<=1048576):n<=sizeLine:=Nat.le_trans h (by decide)
section
variable {P:Params}{h:Heap}
mutual
theorem O3:∀ (d:WData) (v:Value),Well P h v d->plW d=true->d.weight<=1048576->∃ A:List Addr,OkU A v/\∀ a∈A,sV h A a
 | .none,_,x,_,_=>by
  cases x
  exact ⟨[],trivial,fun a m=>absurd m (by simp)⟩
 | .bool b,_,x,_,_=>by
  cases x
  exact ⟨[],trivial,fun a m=>absurd m (by simp)⟩
 | .int i,_,x,_,_=>by
  cases x
  exact ⟨[],trivial,fun a m=>absurd m (by simp)⟩
 | .str s,_,x,_,_=>by
  cases x
  exact ⟨[],trivial,fun a m=>absurd m (by simp)⟩
 | .bytes b,_,x,_,_=>by
  cases x
  exact ⟨[],trivial,fun a m=>absurd m (by simp)⟩
 | .list ds,_,x,p,z=>by
  obtain ⟨a,vs,rfl,ho,hall⟩:=HX x
  have z2:WData.weightAll ds<=1048576:=z
  obtain ⟨A,h1,h2⟩:=BW ds _ hall p fun d hd=>Nat.le_trans (zP hd) z2
  have k:∀ b∈A,b∈a::A:=fun b hb=>mem_cons_of_mem _ hb
  refine ⟨a::A,List.mem_cons_self ..,fun b hb=>?_⟩
  rcases mem_cons.mp hb with e|m
  ·rw [e]
   exact ⟨vs,Mr (by rw [pS hall];exact Nat.le_trans (PySem.W.length_le_weightAllW ds) z2),fun u hu=>(h1 u hu).mono k,.inl ho⟩
  ·exact (h2 b m).mono k
 | .tuple ds,_,x,p,z=>by
  obtain ⟨a,vs,rfl,ho,hall⟩:=Ej x
  have z2:WData.weightAll ds<=1048576:=z
  obtain ⟨A,h1,h2⟩:=BW ds _ hall p fun d hd=>Nat.le_trans (zP hd) z2
  have k:∀ b∈A,b∈a::A:=fun b hb=>mem_cons_of_mem _ hb
  refine ⟨a::A,List.mem_cons_self ..,fun b hb=>?_⟩
  rcases mem_cons.mp hb with e|m
  ·rw [e]
   exact ⟨vs,Mr (by rw [pS hall];exact Nat.le_trans (PySem.W.length_le_weightAllW ds) z2),fun u hu=>(h1 u hu).mono k,.inr ho⟩
  ·exact (h2 b m).mono k
 | .float _,_,_,p,_=>Bool.noConfusion (show false=true from p)
 | .dict _,_,_,p,_=>Bool.noConfusion (show false=true from p)
 | .bytearray _,_,_,p,_=>Bool.noConfusion (show false=true from p)
 | .set _,_,_,p,_=>Bool.noConfusion (show false=true from p)
 | .frozenset _,_,_,p,_=>Bool.noConfusion (show false=true from p)
 | .obj _ _,_,_,p,_=>Bool.noConfusion (show false=true from p)
theorem BW:∀ (ds:List WData) (vs:List Value),WellAll P h vs ds->DK ds=true->(∀ d∈ds,d.weight<=1048576)->∃ A:List Addr,(∀ u∈vs,OkU A u)/\∀ a∈A,sV h A a
 | [],_,x,_,_=>by
  cases x
  exact ⟨[],fun u m=>absurd m (by simp),fun a m=>absurd m (by simp)⟩
 | d::ds,_,x,p,z=>by
  obtain ⟨v,vs,rfl,x1,x2⟩:=Ho x
  have q:plW d=true/\DK ds=true:=Bool.and_eq_true_iff.mp p
  obtain ⟨A,a1,a2⟩:=O3 d v x1 q.1 (z d (List.mem_cons_self ..))
  obtain ⟨B,b1,b2⟩:=BW ds vs x2 q.2 fun e he=>z e (mem_cons_of_mem _ he)
  have kA:∀ b∈A,b∈A++B:=fun b hb=>mem_append.mpr (.inl hb)
  have kB:∀ b∈B,b∈A++B:=fun b hb=>mem_append.mpr (.inr hb)
  refine ⟨A++B,fun u hu=>?_,fun b hb=>?_⟩
  ·rcases mem_cons.mp hu with e|m
   ·rw [e]
    exact a1.mono kA
   ·exact (b1 u m).mono kB
  ·rcases mem_append.mp hb with m|m
   ·exact (a2 b m).mono kA
   ·exact (b2 b m).mono kB
end
end
def PJ(o:Obj):Option HO:=match o.data with
 | .seq vs _=>if (o.cls==Value.type "list")=true then some (.mH o (.lst (vs.toList.map toV))) else some (.mH o (.tup (vs.toList.map toV)))
 | _=>none
def rW(K:Frag)(h:Heap)(A:List Addr):Hp:=fun b=>if b∈A then (if (K.lookup b).isNone=true then (h.get? b).bind PJ else none) else none
def Kl(H:Hp):Prop:=∀ b,H b=none\/∃ o u,H b=some (.mH o u)
theorem Lh(vs:List Value):PJ { cls:=.type "list",data:=.seq vs.toArray }=some (.mH { cls:=.type "list",data:=.seq vs.toArray } (.lst (vs.map toV))):=by
 show (if (Value.type "list"==Value.type "list")=true then some (HO.mH { cls:=.type "list",data:=.seq vs.toArray } (.lst (vs.toArray.toList.map toV))) else some (HO.mH { cls:=.type "list",data:=.seq vs.toArray } (.tup (vs.toArray.toList.map toV))))=_
 rw [if_pos (beq_self_eq_true _)]
theorem J0(vs:List Value):PJ { cls:=.type "tuple",data:=.seq vs.toArray }=some (.mH { cls:=.type "tuple",data:=.seq vs.toArray } (.tup (vs.map toV))):=by
 show (if (Value.type "tuple"==Value.type "list")=true then some (HO.mH { cls:=.type "tuple",data:=.seq vs.toArray } (.lst (vs.toArray.toList.map toV))) else some (HO.mH { cls:=.type "tuple",data:=.seq vs.toArray } (.tup (vs.toArray.toList.map toV))))=_
 rw [if_neg (by decide)]
section
variable {P:Program}{w:World}{K:Frag}{h:Heap}{A:List Addr}
theorem D9{b:Addr}{o:Obj}(hb:b∈A)(hk:K.lookup b=none)(e:h.get? b=some o):rW K h A b=PJ o:=by
 unfold rW
 rw [if_pos hb,hk,if_pos (show (none:Option Obj).isNone=true from rfl),e]<;>rfl
theorem P9{b:Addr}{u:HO}(q:rW K h A b=some u):b∈A/\K.lookup b=none:=by
 unfold rW at q
 by_cases hb:b∈A
 ·rw [if_pos hb] at q
  cases hk:K.lookup b with
  | none=>exact ⟨hb,rfl⟩
  | some o =>
   rw [hk,if_neg (by simp)] at q
   cases q
 ·rw [if_neg hb] at q
  cases q
theorem Ed(ar:∀ a∈A,sV h A a){b:Addr}{u:HO}(q:rW K h A b=some u):K.lookup b=none/\∃ vs:List Value,vs.length<=sizeLine/\(∀ u∈vs,OkU A u) ∧
 (
  (h.get? b=some { cls:=.type "list",data:=.seq vs.toArray }/\u=.mH { cls:=.type "list",data:=.seq vs.toArray } (.lst (vs.map toV))) ∨
  (h.get? b=some { cls:=.type "tuple",data:=.seq vs.toArray }/\u=.mH { cls:=.type "tuple",data:=.seq vs.toArray } (.tup (vs.map toV)))):=by
 obtain ⟨hb,hk⟩:=P9 q
 obtain ⟨vs,h1,h2,h3⟩:=ar b hb
 refine ⟨hk,vs,h1,h2,?_⟩
 rcases h3 with e|e
 ·rw [D9 hb hk e,Lh] at q
  exact .inl ⟨e,(Option.some.inj q).symm⟩
 ·rw [D9 hb hk e,J0] at q
  exact .inr ⟨e,(Option.some.inj q).symm⟩
theorem Nh(ar:∀ a∈A,sV h A a):Kl (rW K h A):=fun b=>by
 cases q:rW K h A b with
 | none=>exact .inl rfl
 | some u =>
  obtain ⟨_,vs,_,_,⟨_,e⟩|⟨_,e⟩⟩:=Ed ar q
  ·exact .inr ⟨_,_,by rw [e]⟩
  ·exact .inr ⟨_,_,by rw [e]⟩
theorem Qb(ar:∀ a∈A,sV h A a):sS P w (rW K h A) h:=fun b u q=>by
 obtain ⟨_,vs,h1,h2,⟨e,rfl⟩|⟨e,rfl⟩⟩:=Ed ar q
 ·exact ⟨e,by rw [length_map];exact h1,vs,_,qO h2,e⟩
 ·exact ⟨e,by rw [length_map];exact h1,vs,qO h2,_,e,rfl,_,rfl⟩
theorem D5{c c':Value}{vs us:List Value}(e:(some { cls:=c,data:=.seq vs.toArray }:Option Obj)=some { cls:=c',data:=.seq us.toArray }):c=c'/\vs=us:=by
 have e1:=Option.some.inj e
 have e2:c=c':=congrArg Obj.cls e1
 have e3:Data.seq vs.toArray=Data.seq us.toArray:=congrArg Obj.data e1
 injection e3 with e4
 refine ⟨e2,?_⟩
 have e5:=congrArg Array.toList e4
 simpa using e5
theorem SH(KX:K.In h)(ar:∀ a∈A,sV h A a){a:Addr}{vs:List Value}(ha:a∈A)(e:h.get? a=some { cls:=.type "list",data:=.seq vs.toArray }):(∀ u∈vs,OkU A u)/\cT K (rW K h A) a (vs.map toV):=by
 obtain ⟨us,h1,h2,h3⟩:=ar a ha
 have hu:us=vs:=by
  rcases h3 with q|q
  ·rw [e] at q
   exact (D5 q).2.symm
  ·rw [e] at q
   exact absurd (Value.type.inj (D5 q).1) (by decide)
 subst hu
 refine ⟨h2,?_⟩
 cases hk:K.lookup a with
 | none=>exact .inl (.inr ⟨_,by rw [D9 ha hk e,Lh]⟩)
 | some o =>
  have e2:=KX a o hk
  rw [e] at e2
  obtain rfl:=Option.some.inj e2
  exact .inr ⟨_,us.toArray,_,hk,rfl,rfl,rfl,by rw [size_toArray];exact h1,by simpa using qO h2⟩
theorem SY(KX:K.In h)(ar:∀ a∈A,sV h A a){a:Addr}{vs:List Value}(ha:a∈A)(e:h.get? a=some { cls:=.type "tuple",data:=.seq vs.toArray }):(∀ u∈vs,OkU A u)/\SqT K (rW K h A) a (vs.map toV):=by
 obtain ⟨us,h1,h2,h3⟩:=ar a ha
 have hu:us=vs:=by
  rcases h3 with q|q
  ·rw [e] at q
   exact absurd (Value.type.inj (D5 q).1) (by decide)
  ·rw [e] at q
   exact (D5 q).2.symm
 subst hu
 refine ⟨h2,?_⟩
 cases hk:K.lookup a with
 | none=>exact .inl (.inr ⟨_,by rw [D9 ha hk e,J0]⟩)
 | some o =>
  have e2:=KX a o hk
  rw [e] at e2
  obtain rfl:=Option.some.inj e2
  exact .inr ⟨_,us.toArray,_,hk,rfl,rfl,by rw [size_toArray];exact h1,by simpa using qO h2⟩
mutual
theorem Rh{Pm:Params}(KX:K.In h)(ar:∀ a∈A,sV h A a):∀ (d:WData) (v:Value),Well Pm h v d->plW d=true->OkU A v->Dw K (rW K h A) (toV v) d
 | .none,_,x,_,_=>by
  cases x
  exact .eX
 | .bool b,_,x,_,_=>by
  cases x
  exact .bl b
 | .int i,_,x,_,_=>by
  cases x
  exact .int i
 | .str s,_,x,_,_=>by
  cases x
  exact .str s
 | .bytes b,_,x,_,_=>by
  cases x
  have z:=Dw.byt (K:=K) (H:=rW K h A) b.toArray
  exact z
 | .list ds,_,x,p,hu=>by
  obtain ⟨a,vs,rfl,ho,hall⟩:=HX x
  obtain ⟨h2,hs⟩:=SH KX ar hu ho
  exact .lst hs (II KX ar ds _ hall p h2)
 | .tuple ds,_,x,p,hu=>by
  obtain ⟨a,vs,rfl,ho,hall⟩:=Ej x
  obtain ⟨h2,hs⟩:=SY KX ar hu ho
  exact .tup hs (II KX ar ds _ hall p h2)
 | .float _,_,_,p,_=>Bool.noConfusion (show false=true from p)
 | .dict _,_,_,p,_=>Bool.noConfusion (show false=true from p)
 | .bytearray _,_,_,p,_=>Bool.noConfusion (show false=true from p)
 | .set _,_,_,p,_=>Bool.noConfusion (show false=true from p)
 | .frozenset _,_,_,p,_=>Bool.noConfusion (show false=true from p)
 | .obj _ _,_,_,p,_=>Bool.noConfusion (show false=true from p)
theorem II{Pm:Params}(KX:K.In h)(ar:∀ a∈A,sV h A a):∀ (ds:List WData) (vs:List Value),WellAll Pm h vs ds->DK ds=true->(∀ u∈vs,OkU A u)->sY K (rW K h A) (vs.map toV) ds
 | [],_,x,_,_=>by
  cases x
  exact .nil
 | d::ds,_,x,p,hu=>by
  obtain ⟨v,vs,rfl,x1,x2⟩:=Ho x
  have q:plW d=true/\DK ds=true:=Bool.and_eq_true_iff.mp p
  exact .cons (Rh KX ar d v x1 q.1 (hu _ (List.mem_cons_self ..))) (II KX ar ds vs x2 q.2 fun u m=>hu u (mem_cons_of_mem _ m))
end
end
theorem NL{P:Program}{w:World}{K:Frag}{mg mb:Str->Option Value}{CX:CXT}{k:Nat}{fa:Addr}{fd:FuncData}{ps:List Str}{sp:Sp}{s₁:Shared}{vals:List Value}{ds:List WData}{R:PySem.W.WRecords}{cl:Str->Option Addr}{d0:WData}
 (KX:K.In s₁.heap) (hns:s₁.heap.Ns mainGlobals mg) (hb:s₁.heap.Ns builtinsNs mb) (hbb:∀ x:Str,x≠"__name__"->mb x=bootBuiltins x) (hlim:s₁.heap.NoLimit) (hg:s₁.gens=#[])
 (hwl:WellAll w.params s₁.heap vals ds) (hpl:DK ds=true) (hwt:∀ d∈ds,d.weight<=1048576) (hr:iW k callerA)
 (F:∀ base:Heap,K.In base->base.Ns mainGlobals mg->bL P w K mg base CX k fa fd ps sp) (hbind:∀ (s:Shared) (us:List Value),us.length=ps.length->BindsTo s fd ⟨us,[]⟩ (ps.zip us)) (hlen:ds.length=ps.length)
 (hsp:∀ (H:Hp) (xs:List V),Kl H->sY K H xs ds->sp xs H (fun v H'=>Dw K H' v d0) fun _ _ _=>False)
 (hCX:∀ H e s',CX [] H s₁ (fun _ _ _=>False) e s'->False) :
 codeAny (model P w) callerA (.call (.ref fa) ⟨vals,[]⟩) (fun r s'=>∃ u as,r=.ok (.ret u)/\ReadsW R cl s'.heap u d0 as/\OldK s₁.heap s'.heap/\s'.os=s₁.os/\AllBare s'.gens) s₁:=by
 obtain ⟨A,ho,ar⟩:=BW ds vals hwl hpl hwt
 have hO:Kl (rW K s₁.heap A):=Nh ar
 have eE:sS P w (rW K s₁.heap A) s₁.heap:=Qb ar
 have hS:=II KX ar ds vals hwl hpl ho
 have hV:=qO ho
 have hK:∀ b u,rW K s₁.heap A b=some u->K.lookup b=none:=fun b u q=>(Ed ar q).1
 have noA:∀ {b:Addr} {o:Obj} {es:Array DictEntry} {ep:Nat},s₁.heap.get? b=some o->o.data=.dict es ep->rW K s₁.heap A b=none:=fun {b o es ep} e d=>by
  cases q:rW K s₁.heap A b with
  | none=>rfl
  | some u =>
   obtain ⟨_,vs,_,_,⟨e2,_⟩|⟨e2,_⟩⟩:=Ed ar q
   ·rw [e2] at e
    cases e
    have d':Data.seq vs.toArray _=Data.dict es ep:=d
    cases d'
   ·rw [e2] at e
    cases e
    have d':Data.seq vs.toArray _=Data.dict es ep:=d
    cases d'
 generalize rW K s₁.heap A=H at hO eE hS hK noA
 have base_of:∀ {b:Addr} {o:Obj},s₁.heap.get? b=some o->H b=none->(Js s₁.heap H).get? b=some o:=fun e n=>OC e n
 have nsK:∀ {b:Addr} {m:Str->Option Value},s₁.heap.Ns b m->(Js s₁.heap H).Ns b m:=fun {b m} ⟨o,es,ep,e,d,r⟩=>⟨o,es,ep,base_of e (noA e d),d,r⟩
 have nK:∀ b o,K.lookup b=some o->H b=none:=fun b o e=>by
  cases q:H b with
  | none=>rfl
  | some u =>
   rw [hK b u q] at e
   cases e
 have hKb:K.In (Js s₁.heap H):=fun b o e=>base_of (KX b o e) (nK b o e)
 have hM:Mod K mg (Js s₁.heap H):=⟨hKb,nsK hns,⟨mb,nsK hb,hbb⟩,let ⟨mc,h1,h2⟩:=hlim;⟨mc,nsK h1,h2⟩⟩
 have e0:L_ P w K mg (Js s₁.heap H) callerA [] s₁ H:=⟨rfl,hM,fun b o e=>Qr e,Nat.le_of_eq (Nz _ _),trivial,fun b hb=>absurd (show b∈([]:List Addr) from hb) (by simp),eE,.of_eq hg⟩
 have hl:vals.length=ps.length:=by rw [pS hwl];exact hlen
 refine codeAny_mono ((F _ hKb (nsK hns)).run callerA [] s₁ H ⟨vals,[]⟩ vals (vals.map toV) _ _ hr e0 (hbind s₁ vals hl) hV (hsp H _ hO hS)) fun r s' x=>?_
 cases r with
 | error e=>exact (hCX H e s' x).elim
 | ok fl =>
  cases fl with
  | next=>exact False.elim x
  | brk=>exact False.elim x
  | cont=>exact False.elim x
  | ret u =>
   obtain ⟨v,H',os,bare,un,hok',r',q⟩:=x
   have kept:∀ b o,s₁.heap.get? b=some o->s'.heap.get? b=some o:=fun b o e=>by
    cases q2:H b with
    | none=>exact un.keep b o e q2 (by intro z;exact absurd (show b∈([]:List Addr) from z) (by simp)) (by simp)
    | some u2 =>
     rcases hO b with z|⟨ob,u3,z⟩
     ·rw [q2] at z
      cases z
     ·have z2:=un.Ar b ob _ z
      obtain ⟨e1,_⟩:=eE b _ z
      obtain ⟨e2,_⟩:=hok' b _ z2
      rw [e] at e1
      cases e1
      exact e2
   have KX':K.In s'.heap:=fun b o e=>kept b o (KX b o e)
   obtain ⟨as,hrd⟩:=Dw.reads (R:=R) (cl:=cl) hok' KX' d0 v u q r'
   exact ⟨u,as,rfl,hrd,OldK.of_keep kept,os,bare⟩
theorem Fw{ds:List WData}(h:WData.layableAll ds=true):∀ d∈ds,d.weight<=1048576:=fun d hd =>
 (PySem.W.layableW_iff.mp (all_eq_true.mp h d hd)).2.2
theorem Ei:∀ (cs:List Codec) (a:Codec.denoteAll cs),(Codec.encAll cs a).length=cs.length
 | [],_=>rfl
 | c::cs,a=>by
  show (Codec.encAll cs a.2).length+1=cs.length+1
  rw [Ei cs a.2]
theorem NB{r:OpenSpec}{k:Nat}{q:Program}{loose:List Str}{XP:(Str->Option Value)->Heap->Prop}{YP:World->Heap->Prop}{d:DefRec}{K:Params->Frag}{CX:World->CXT}{ps:List Str}{sp:World->Sp}
 (hwell:r.wellSaid=true) (hdf:d.params.defaults=[]) (hlen:r.args.length=ps.length) (hr:iW k callerA)
 (hY:∀ (w:World) (h:Heap),YP w h->(K w.params).In h)
 (F:∀ (w:World) (mg:Str->Option Value) (fa:Addr) (h:Heap),YP w h->(K w.params).In h->h.Ns mainGlobals mg->mg d.name=some (.ref fa) →
  ∃ fd:FuncData,(∀ (s:Shared) (us:List Value),us.length=ps.length->BindsTo s fd ⟨us,[]⟩ (ps.zip us)) ∧
   ∀ base:Heap,(K w.params).In base->base.Ns mainGlobals mg->bL r.prog w (K w.params) mg base (CX w) k fa fd ps (sp w))
 (hsp:∀ (w:World) (H:Hp) (xs:List V) (a:Codec.denoteAll r.args),Kl H->Codec.withinAll r.args a=true->Codec.app r.args r.asked a=true->sY (K w.params) H xs (Codec.encAll r.args a) →
  sp w xs H (fun v H'=>Dw (K w.params) H' v (r.ret.enc (Codec.app r.args r.f a))) fun _ _ _=>False)
 (hCX:∀ (w:World) (H:Hp) (s:Shared) (e:Value) (s':Shared),CX w [] H s (fun _ _ _=>False) e s'->False) :
 PySem.W.WalkOS q loose XP YP r d [] (fun f vs=>PySem.call f vs):=by
 intro w DO s₁ mg mb G Y fa o pm cd doc dV kV ho hd hcd hD hmg hg args vals as hpre hlay hrd hwl hlo
 obtain ⟨a,e1,e2⟩:=PySem.W.os_pre_some hpre
 obtain ⟨e3,hwi⟩:=Codec.encAll_of_decAll r.args args a e1
 subst e3
 have KX:=hY w _ Y
 obtain ⟨fd,hb,hF⟩:=F w mg fa _ Y KX G.T.g hmg
 refine PySem.W.enter_call (codeAny_mono (NL (R:=[]) (cl:=classAt DO.heap) (d0:=r.ret.enc (Codec.app r.args r.f a)) KX G.T.g G.T.b G.T.builtins G.T.nolimit hg hwl (HM _ _) (Fw hlay) hr hF hb (by rw [Ei];exact hlen)
  (fun H xs hO hS=>hsp w H xs a hO hwi e2 hS) fun H e s'=>hCX w H s₁ e s') fun r' s' hq=>?_)
 obtain ⟨u,as',rfl,h1,h2,h3,h4⟩:=hq
 exact ⟨.inl ⟨u,_,as',rfl,fun _=>rfl,h1,(OpenSpec.post_iff hwell hwi _ _).mpr rfl,fun z=>Bool.noConfusion (show false=true from z)⟩,h2,h3,h4⟩
end L2
namespace Cp
open PySem PySem.Spec PyProof.Rows L2
section
variable {K:Frag}{h:Heap}{mg:Str->Option Value}{f C:Addr}{oc kV dc pm cd ct:Value}{od an:Option Addr}{osl:Array (Option Value)}{x qual:Str}{st:Stmt}{ps:List Str}
abbrev BdF(x qual:Str)(st:Stmt)(ps:List Str):Prop:=∀ (kV doc pm:Value) (an:Option Addr) (cdv ct:Value) (us:List Value),us.length=ps.length->bindArgs (fnOf x qual (fP st) (eO st) (aI st) .none kV doc pm an cdv ct) ⟨us,[]⟩=pure (ps.zip us)
theorem cF(X:K.In h)(G:h.Ns mainGlobals mg)(b:BdF x qual st ps)(a:nsIn K mainGlobals x=some (some (.ref f)):=by k_is)(l:K.lookup f=some ⟨oc,od,.func (fnOf x qual (fP st) (eO st) (aI st) .none kV dc pm an cd ct),osl⟩:=by k_is)(c:codeIn K cd qual=true:=by k_is)(k:keepIn K (.ref f)=true:=by k_is) :
 gP K mg x qual st ps ⟨f,fnOf x qual (fP st) (eO st) (aI st) .none kV dc pm an cd ct⟩:=⟨CH (st:=st) l c k,(CH (st:=st) l c k).binds b,mg_of X G a⟩
theorem Tb{d:FD}(F:gP K mg x qual st ps d)(b:BdF x qual st ps)(s:Shared)(us:List Value)(hu:us.length=ps.length):BindsTo s d.fd ⟨us,[]⟩ (ps.zip us):=by
 obtain ⟨oc,od,kV,doc,pm,an,cdv,ct,osl,e,lk,hcd⟩:=F.F.ex
 rw [e]
 exact .of_eq (b kV doc pm an cdv ct us hu)
theorem EN(b:BdF x qual st ps)(a:findIn K (.ref C) x=some (some (.ref f)):=by dsimp only;k_is)(i:isFn K (.ref f)=true:=by k_is)(l:K.lookup f=some ⟨oc,od,.func (fnOf x qual (fP st) (eO st) (aI st) .none kV dc pm an cd ct),osl⟩:=by k_is)(c:codeIn K cd qual=true:=by k_is)(k:keepIn K (.ref f)=true:=by k_is) :
 MtT K C x qual st ps ⟨f,fnOf x qual (fP st) (eO st) (aI st) .none kV dc pm an cd ct⟩:=⟨CH (st:=st) l c k,(CH (st:=st) l c k).binds b,⟨a,i,k⟩⟩
theorem GX(X:K.In h)(G:h.Ns mainGlobals mg)(b:BdF "__init__" qual st ps)(aC:nsIn K mainGlobals x=some (some (.ref C)):=by k_is)(a:findIn K (.ref C) "__init__"=some (some (.ref f)):=by dsimp only;k_is)(i:isFn K (.ref f)=true:=by k_is)
 (l:K.lookup f=some ⟨oc,od,.func (fnOf "__init__" qual (fP st) (eO st) (aI st) .none kV dc pm an cd ct),osl⟩:=by k_is) (c:codeIn K cd qual=true:=by k_is) (k:keepIn K (.ref f)=true:=by k_is)
 (pg:plainGet K C Str.empty=true:=by dsimp only;k_is) (hd:PySem.W.hasDictIn K C=true:=by dsimp only;k_is) (po:PySem.W.plainOver K C=true:=by dsimp only;k_is) (sa:findIn K (.ref C) "__setattr__"=some (some (.builtin "object.__setattr__")):=by dsimp only;k_is) (mk:PySem.W.makesIn K C=true:=by dsimp only;k_is) (kc:keepIn K (.ref C)=true:=by dsimp only;k_is) :
 InT K mg C x qual st ps ⟨f,fnOf "__init__" qual (fP st) (eO st) (aI st) .none kV dc pm an cd ct⟩:=⟨CH (st:=st) l c k,(CH (st:=st) l c k).binds b,⟨mk,a,i,kc⟩,mg_of X G aC,⟨pg,hd,po,sa⟩⟩
theorem fW{v:Int}{tk:Nat}(X:K.In h)(G:h.Ns mainGlobals mg)(a:nsIn K mainGlobals x=some (some (.int v tk)):=by k_is):∃ tk,mg x=some (.int v tk):=⟨tk,mg_of X G a⟩
theorem L8(X:K.In h)(G:h.Ns mainGlobals mg)(a:nsIn K mainGlobals x=some none:=by k_is):mg x=none:=PySem.W.mg_none_of X G a
theorem eW(a:findIn K (.ref C) x=some none:=by dsimp only;k_is):bP K C x:=a
theorem OK(X:K.In h)(G:h.Ns mainGlobals mg)(a:nsIn K mainGlobals x=some (some (.ref C)):=by k_is)(e:PySem.W.excIn K C [.type "ValueError",.type "Exception",.type "BaseException",.type "object"] "ValueError.__new__"=true:=by dsimp only;k_exc):ExT K mg x C :=
 ⟨mg_of X G a,a,_,_,e,_,_,PySem.F.excBase_ValueError⟩
theorem GJ{C2:Addr}{v:Bool}(a:exmOne K (.ref C) (.ref C2)=some v:=by dsimp only;kts_exm):exmOne K (.ref C) (.ref C2)=some v:=a
theorem SA(X:K.In h)(G:h.Ns mainGlobals mg)(a:nsIn K mainGlobals x=some (some (.ref C)):=by k_is):mg x=some (.ref C):=mg_of X G a
theorem SD{its:Array Value}{n:Nat}(l:K.lookup C=some ⟨.type "tuple",od,.seq its n,osl⟩:=by dsimp only;k_is)(sz:its.size<=sizeLine:=by decide)(v:b9 [.int 3,.int 2,.int 1,.int 0] its.toList:=by exact .cons ⟨_,rfl⟩ (.cons ⟨_,rfl⟩ (.cons ⟨_,rfl⟩ (.cons ⟨_,rfl⟩ .nil)))):∃ (o:Obj) (its:Array Value) (n:Nat),K.lookup C=some o/\o.cls=.type "tuple"/\o.data=.seq its n/\its.size<=sizeLine/\b9 [.int 3,.int 2,.int 1,.int 0] its.toList:=⟨_,its,n,l,rfl,rfl,sz,v⟩
theorem bd0(h:∀ (kV doc pm:Value) (an:Option Addr) (cdv ct:Value),bindArgs (fnOf x qual (fP st) (eO st) (aI st) .none kV doc pm an cdv ct) ⟨[],[]⟩=pure (ps.zip []))(e:ps.length=0:=by rfl):BdF x qual st ps:=fun k d p a c t us hl=>match us,hl.trans e with|[],_=>h k d p a c t
theorem rR(h:∀ (kV doc pm:Value) (an:Option Addr) (cdv ct:Value) (a:Value),bindArgs (fnOf x qual (fP st) (eO st) (aI st) .none kV doc pm an cdv ct) ⟨[a],[]⟩=pure (ps.zip [a]))(e:ps.length=1:=by rfl):BdF x qual st ps:=fun k d p a c t us hl=>match us,hl.trans e with|[_],_=>h k d p a c t _
theorem Am(h:∀ (kV doc pm:Value) (an:Option Addr) (cdv ct:Value) (a:Value) (b:Value),bindArgs (fnOf x qual (fP st) (eO st) (aI st) .none kV doc pm an cdv ct) ⟨[a,b],[]⟩=pure (ps.zip [a,b]))(e:ps.length=2:=by rfl):BdF x qual st ps:=fun k d p a c t us hl=>match us,hl.trans e with|[_,_],_=>h k d p a c t _ _
theorem bd3(h:∀ (kV doc pm:Value) (an:Option Addr) (cdv ct:Value) (a:Value) (b:Value) (c:Value),bindArgs (fnOf x qual (fP st) (eO st) (aI st) .none kV doc pm an cdv ct) ⟨[a,b,c],[]⟩=pure (ps.zip [a,b,c]))(e:ps.length=3:=by rfl):BdF x qual st ps:=fun k d p a c t us hl=>match us,hl.trans e with|[_,_,_],_=>h k d p a c t _ _ _
theorem bd4(h:∀ (kV doc pm:Value) (an:Option Addr) (cdv ct:Value) (a:Value) (b:Value) (c:Value) (d:Value),bindArgs (fnOf x qual (fP st) (eO st) (aI st) .none kV doc pm an cdv ct) ⟨[a,b,c,d],[]⟩=pure (ps.zip [a,b,c,d]))(e:ps.length=4:=by rfl):BdF x qual st ps:=fun k d p a c t us hl=>match us,hl.trans e with|[_,_,_,_],_=>h k d p a c t _ _ _ _
theorem bd5(h:∀ (kV doc pm:Value) (an:Option Addr) (cdv ct:Value) (a:Value) (b:Value) (c:Value) (d:Value) (e:Value),bindArgs (fnOf x qual (fP st) (eO st) (aI st) .none kV doc pm an cdv ct) ⟨[a,b,c,d,e],[]⟩=pure (ps.zip [a,b,c,d,e]))(e:ps.length=5:=by rfl):BdF x qual st ps:=fun k d p a c t us hl=>match us,hl.trans e with|[_,_,_,_,_],_=>h k d p a c t _ _ _ _ _
end
def spA(K:Frag):Sp:=fun vs H Q E=>∃ (nl:Addr) (ns:List Int),vs=[.ref nl]/\JK K H nl (ns.map V.int)/\PyWqasax.answers_asked ns=true/\∀ H' q,aK H H'->H' q=some (.lst ((PyWqasax.answers ns).map V.int))->Q (.ref q) H'
end Cp
namespace L2
open PySem PySem.Spec PyProof.Rows
open PySem.W (WData Codec OpenSpec Well WellAll ReadsW ReadsAllW)
theorem L7{r:OpenSpec}{k:Nat}{q:Program}{loose:List Str}{XP:(Str->Option Value)->Heap->Prop}{YP:World->Heap->Prop}{d:DefRec}{K:Params->Frag}{ps:List Str}{sp:Frag->Sp}(hwell:r.wellSaid=true)(hdf:d.params.defaults=[])(hlen:r.args.length=ps.length)(hr:iW k callerA)
 (hY:∀ (w:World) (h:Heap),YP w h->(K w.params).In h)
 (F:∀ (w:World) (mg:Str->Option Value) (fa:Addr) (h:Heap),YP w h->(K w.params).In h->h.Ns mainGlobals mg->mg d.name=some (.ref fa) →
  ∃ fd:FuncData,(∀ (s:Shared) (us:List Value),us.length=ps.length->BindsTo s fd ⟨us,[]⟩ (ps.zip us))/\∀ base:Heap,(K w.params).In base->base.Ns mainGlobals mg->bL r.prog w (K w.params) mg base (nG r.prog w) k fa fd ps (sp (K w.params)))
 (hsp:∀ (K:Frag) (H:Hp) (xs:List V) (a:Codec.denoteAll r.args),Kl H->Codec.withinAll r.args a=true->Codec.app r.args r.asked a=true->sY K H xs (Codec.encAll r.args a) →
  sp K xs H (fun v H'=>Dw K H' v (r.ret.enc (Codec.app r.args r.f a))) fun _ _ _=>False) :
 PySem.W.WalkOS q loose XP YP r d [] (fun f vs=>PySem.call f vs) :=
 NB (K:=K) (CX:=fun w=>nG r.prog w) (sp:=fun w=>sp (K w.params)) hwell hdf hlen hr hY F (fun w H xs a h1 h2 h3 h4=>hsp (K w.params) H xs a h1 h2 h3 h4) fun w H s e s' z=>by
  obtain ⟨_,_,_,_,_,_,z⟩:=z
  exact z
end L2
namespace PySem.W.Fast
def tw10002075792187614007:=0
def tw1003026266271278804:=0
def tw10051525793173681281:=0
def tw10102558924732298408:=0
def tw10110379606687646625:=0
def tw1012065798296013228:=0
def tw10143136426903699795:=0
def tw10158441121255037099:=0
def tw10195457971275991134:=0
def tw10196370588078447664:=0
def tw1020826867369846837:=0
def tw1022690022083567503:=0
def tw10288096713462281081:=0
def tw1030171718327763268:=0
def tw10329959725646602227:=0
def tw10350384673701180491:=0
def tw10350989982216813259:=0
def tw10361446878798422500:=0
def tw10390072251331634763:=0
def tw10399889436812455715:=0
def tw10434281126504085076:=0
def tw10443706325157807386:=0
def tw10452282403727351018:=0
def tw10452777778062038740:=0
def tw10474740468424836975:=0
def tw10544205994854264649:=0
def tw10551387066563910685:=0
def tw10563928187241643237:=0
def tw10573697185004436788:=0
def tw10593369192580193768:=0
def tw10640017271941158732:=0
def tw10649575655779293630:=0
def tw10677789644189013216:=0
def tw10689573708958726659:=0
def tw10690001852381185144:=0
def tw10694075312357982771:=0
def tw10717845437611243388:=0
def tw10725054183430877313:=0
def tw10746646513955603061:=0
def tw10749732392535541240:=0
def tw10778737875145368962:=0
def tw10786429040283404883:=0
def tw10808295919929286947:=0
def tw10850792293394535495:=0
def tw10851352434432541825:=0
def tw10857901074553402444:=0
def tw10864239801758932925:=0
def tw10907619664469823641:=0
def tw10908685157417434262:=0
def tw10927698869069639868:=0
def tw10953294691346093602:=0
def tw10990237151106658350:=0
def tw11012556415462581104:=0
def tw11025347005712318142:=0
def tw11039334628689055981:=0
def tw11055459888970944200:=0
def tw11110773652797867126:=0
def tw11121536267902715752:=0
def tw11144795980316577536:=0
def tw11173446190946832767:=0
def tw11174402006784006491:=0
def tw11175796321848711803:=0
def tw11176869936752273499:=0
def tw11180992923163502617:=0
def tw11197962820447513112:=0
def tw11211777837042079596:=0
def tw11218202675425413518:=0
def tw11221723325142340896:=0
def tw11250575615017063307:=0
def tw1125113673074958122:=0
def tw11256787488189621415:=0
def tw11289792555652790272:=0
def tw11317914897409131025:=0
def tw11328059084481464736:=0
def tw11369228661731982871:=0
def tw11381044138101500733:=0
def tw11384882763629792990:=0
def tw11385431963015425957:=0
def tw11463340235283324215:=0
def tw11474069054092927087:=0
def tw11502018250791172970:=0
def tw11505300980695046460:=0
def tw11506910363156940888:=0
def tw11514275045477097255:=0
def tw1153982532196464782:=0
def tw11567555953786813236:=0
def tw1157247213002544097:=0
def tw11579585964371144488:=0
def tw11613351454549634828:=0
def tw1169673432780185402:=0
def tw11701456623117524694:=0
def tw11709281383137860482:=0
def tw11709569944995468950:=0
def tw11746581686523547192:=0
def tw11757665521689235575:=0
def tw11776604845453304547:=0
def tw11777391991499578259:=0
def tw11790914603401634974:=0
def tw11807371962461221591:=0
def tw11830319635969393436:=0
def tw11843238181164554848:=0
def tw11845299430048411381:=0
def tw11863415691787914968:=0
def tw11947524208187426615:=0
def tw11951144136715806518:=0
def tw11985882006782622657:=0
def tw12022731612974044289:=0
def tw12025567552248703522:=0
def tw12065155441061728067:=0
def tw1206814452789033198:=0
def tw1207465484404346905:=0
def tw12116231515287742378:=0
def tw12123727622497078803:=0
def tw12154470531894844622:=0
def tw1215924803718037844:=0
def tw1217228216129570955:=0
def tw12221423553220127875:=0
def tw12224905926101989588:=0
def tw12263307138539451410:=0
def tw12284438545156060696:=0
def tw12287301638709283357:=0
def tw12298481624062632643:=0
def tw12330560276151165716:=0
def tw12363015323982005662:=0
def tw12367330666258613142:=0
def tw12373864687101344184:=0
def tw12383840346180098673:=0
def tw12390775098069348674:=0
def tw12399031328734130430:=0
def tw12405143294947192930:=0
def tw12409974556084664982:=0
def tw12422862039858821451:=0
def tw124320647430076582:=0
def tw12451744168739926907:=0
def tw12479683797711403533:=0
def tw1249509723570867150:=0
def tw12524164329835227654:=0
def tw125275654940081382:=0
def tw1254629898801369854:=0
def tw12567120163240037124:=0
def tw12588128988358580520:=0
def tw12625044639850032054:=0
def tw12666434566043155949:=0
def tw12671782469455493307:=0
def tw12764038553000160876:=0
def tw12766575560678573914:=0
def tw12779183149394529671:=0
def tw12788065081257975565:=0
def tw12798788731575314093:=0
def tw12800513992788843927:=0
def tw12804746722001402402:=0
def tw12813952348932317169:=0
def tw12820262658797221266:=0
def tw12828710142291301337:=0
def tw1286787019143762483:=0
def tw12967810374366317421:=0
def tw1299957264158130285:=0
def tw130038566326420232:=0
def tw13008280315604061692:=0
def tw13029888677635554857:=0
def tw13034465469244503715:=0
def tw13048179409906566570:=0
def tw13090430709698808272:=0
def tw13099211002727523234:=0
def tw13123143241668308645:=0
def tw13153266860763995899:=0
def tw13208258837112194113:=0
def tw1321754843119658033:=0
def tw13233443365501779653:=0
def tw13243200706442192486:=0
def tw13260825640948167137:=0
def tw13271951421970163161:=0
def tw1328078643213036204:=0
def tw13281708448188494362:=0
def tw13285399186974412863:=0
def tw13313161930494124431:=0
def tw13314838053619810644:=0
def tw13321088778737261246:=0
def tw13324283367464080883:=0
def tw13327037738292722344:=0
def tw1333558809275191276:=0
def tw13337666168326555843:=0
def tw13372595597615462095:=0
def tw133785195593310817:=0
def tw13385382212833020982:=0
def tw13389743664561476593:=0
def tw13394944842339406924:=0
def tw13405482603163966135:=0
def tw13420277971703415650:=0
def tw1342593068257633575:=0
def tw13478115477207044913:=0
def tw13491466104619642352:=0
def tw13546878834107044130:=0
def tw13560527848391364493:=0
def tw13561124897537033676:=0
def tw13603316210294466817:=0
def tw13617791308632419959:=0
def tw13623450253474829536:=0
def tw1362623169412483880:=0
def tw1363735712700444517:=0
def tw13664405795257982847:=0
def tw1366794640472132226:=0
def tw1368087285394443168:=0
def tw13682083154985522237:=0
def tw13730725023858867421:=0
def tw13744920107856837788:=0
def tw13759211098153180281:=0
def tw13816439442780820921:=0
def tw13846658199748730078:=0
def tw13857616287225111540:=0
def tw13892719371026387857:=0
def tw13946066553755338311:=0
def tw13956096735053569504:=0
def tw13978944304857931347:=0
def tw14002560957035954713:=0
def tw14024102354351478869:=0
def tw14058739482783566872:=0
def tw14113276276406028252:=0
def tw14124619539507432780:=0
def tw14167794350272303213:=0
def tw14226138910550747459:=0
def tw14277668753491681466:=0
def tw14289903821995863331:=0
def tw14328100923090485584:=0
def tw1434025052099439953:=0
def tw14358784067394271539:=0
def tw14387655848055018637:=0
def tw14391730833802703249:=0
def tw14411882780199845723:=0
def tw14438549739843168148:=0
def tw14442375137990696379:=0
def tw14460343014153392022:=0
def tw14509739282705684590:=0
def tw14551031279809679521:=0
def tw1457468365573985025:=0
def tw14582615362783878770:=0
def tw14622024045049401825:=0
def tw14630928218535740083:=0
def tw14644418133126546557:=0
def tw14658584268888884149:=0
def tw14716978400890355402:=0
def tw14726522438445820494:=0
def tw1474475697102359292:=0
def tw14769674010490330549:=0
def tw14796291373028759837:=0
def tw14818310553456131842:=0
def tw14900150300307786768:=0
def tw14923685383170288254:=0
def tw14934358413564072171:=0
def tw14949602305270867925:=0
def tw14982693513552454209:=0
def tw14985710841203773921:=0
def tw15001261989200290580:=0
def tw15016727960823180141:=0
def tw15020759988196532001:=0
def tw15042666737757758547:=0
def tw15048497508223185485:=0
def tw15094576446354885199:=0
def tw15111014915877331945:=0
def tw15124162886903609055:=0
def tw15161843444856377477:=0
def tw15197547057255358365:=0
def tw1520459233339375431:=0
def tw15261410982152474157:=0
def tw15276134823992903844:=0
def tw15290596627557770055:=0
def tw15295516370651145279:=0
def tw15302825691923368325:=0
def tw15309256334928890006:=0
def tw15323842229795516543:=0
def tw15325997212918581474:=0
def tw15327016875403065517:=0
def tw15366814558428275205:=0
def tw15369219526514407111:=0
def tw15381110331052949679:=0
def tw15385756095634804915:=0
def tw15392986868617914187:=0
def tw15418339137425038001:=0
def tw15435827202346438946:=0
def tw15489611129610979584:=0
def tw15514427969976109476:=0
def tw15527806476046834710:=0
def tw15532277720626735473:=0
def tw15549447582267120355:=0
def tw1555574495344534138:=0
def tw15557565114908219494:=0
def tw15588994487971888036:=0
def tw15612272765685224468:=0
def tw15622655358287673895:=0
def tw15624648595179109513:=0
def tw15635470785455596926:=0
def tw15636584675219950867:=0
def tw15645319921266570893:=0
def tw15718730924343061004:=0
def tw15723521150357581089:=0
def tw15748915706001120137:=0
def tw15766781250366763388:=0
def tw15770463606699452987:=0
def tw15774813998366510371:=0
def tw15821948009683289504:=0
def tw15832181718571633161:=0
def tw15860095095992612819:=0
def tw15871407910824733931:=0
def tw15884800064309523383:=0
def tw15902840594043689695:=0
def tw15902897987028210603:=0
def tw15919861569434163757:=0
def tw15925693596771786757:=0
def tw15929553682436251569:=0
def tw1593063710643011768:=0
def tw16005469689961549292:=0
def tw16017454293817194113:=0
def tw16018973046185410672:=0
def tw1606337629045244517:=0
def tw16077505931476324266:=0
def tw16081368936107460185:=0
def tw16097947570883679557:=0
def tw16115185902608689653:=0
def tw1611530958380822730:=0
def tw1612809347241622835:=0
def tw1613752752882274247:=0
def tw16151525155221764585:=0
def tw16162374035295032477:=0
def tw16182332784615545166:=0
def tw16184667152279872056:=0
def tw16202875088150857804:=0
def tw16206937179265378237:=0
def tw16212529710807008142:=0
def tw16215268362983250299:=0
def tw1624168377570426733:=0
def tw16269638360935161649:=0
def tw1626991086924163766:=0
def tw1627300557782858751:=0
def tw16285107236816242034:=0
def tw16303281256621165979:=0
def tw16340324320758591353:=0
def tw16344913484047162554:=0
def tw16374574000980587271:=0
def tw16407714744201436830:=0
def tw16434020750777465055:=0
def tw16531328508098357383:=0
def tw1653631020751204316:=0
def tw16558675558564375435:=0
def tw16568207829661199748:=0
def tw16570510676662434612:=0
def tw16578725908606415052:=0
def tw1659280608692482709:=0
def tw16603700791061940441:=0
def tw16631360128289239158:=0
def tw16704183365251182203:=0
def tw16708493142221188283:=0
def tw16708896506181788309:=0
def tw16735844464464162032:=0
def tw16747661107715866578:=0
def tw16804396880590279102:=0
def tw16810844744175414051:=0
def tw16826072772825022865:=0
def tw16829516898575166451:=0
def tw16844774927461499934:=0
def tw16845148950782471634:=0
def tw1684622470243000333:=0
def tw16900399596354450520:=0
def tw16916245096406407138:=0
def tw16920630525640994891:=0
def tw16928095261824164661:=0
def tw16949823102542237948:=0
def tw16982623068006109925:=0
def tw17022965275759172503:=0
def tw17027596887237999733:=0
def tw17077398885492981454:=0
def tw17119354356341236617:=0
def tw17143448013721941511:=0
def tw17146149720521558314:=0
def tw17171112943700554020:=0
def tw171909331202849001:=0
def tw17212249132895962371:=0
def tw17238881392912431792:=0
def tw1728924016799174709:=0
def tw17310961167496633349:=0
def tw17333497074463934728:=0
def tw17371513693435228396:=0
def tw17398370547100631467:=0
def tw17402325015778449844:=0
def tw17404514278131165991:=0
def tw17406738406387282695:=0
def tw17475910744081738916:=0
def tw17484613983455043212:=0
def tw1751001395862487423:=0
def tw17511338091772183688:=0
def tw17524869259431685113:=0
def tw17545337642601164849:=0
def tw17552636842989709642:=0
def tw17567379716595631441:=0
def tw17577544228375031156:=0
def tw17586547014887833885:=0
def tw17588121795444884252:=0
def tw17602144941838566293:=0
def tw17611978971807721939:=0
def tw17659368940874583224:=0
def tw17727097977377675888:=0
def tw17817636191877202520:=0
def tw17829051421432436027:=0
def tw17835076957765774328:=0
def tw17835811721749320979:=0
def tw17836395825717976172:=0
def tw17852035209050069983:=0
def tw17858910028714010234:=0
def tw17866585889590367933:=0
def tw17882607481413918301:=0
def tw17926914750366337600:=0
def tw17988466484987724127:=0
def tw18027852895047420109:=0
def tw18047848624301577012:=0
def tw1810761086528940703:=0
def tw1811503996519837656:=0
def tw18163642864873049595:=0
def tw18197312191481562004:=0
def tw18199743506484318840:=0
def tw18258539856416000231:=0
def tw18262842225633609054:=0
def tw18263704097926126554:=0
def tw1827671851499268065:=0
def tw18301045256164793857:=0
def tw18303227058022143310:=0
def tw18332599484969458917:=0
def tw18335165507754071489:=0
def tw18338825822733206193:=0
def tw18388702787591398902:=0
def tw1841478381235364639:=0
def tw18424232206501599937:=0
def tw1845687532202486809:=0
def tw1851176086719553106:=0
def tw1886943855564465770:=0
def tw1922598291474892659:=0
def tw1932411340401794638:=0
def tw1935804549056780878:=0
def tw1950430282832730636:=0
def tw1953185021712155118:=0
def tw1962204862459682840:=0
def tw1996858991850879534:=0
def tw2010352516498962239:=0
def tw2019166554828250392:=0
def tw2069011884007155672:=0
def tw2195175219483031338:=0
def tw2223736390845603139:=0
def tw2228223147159813140:=0
def tw23288096948986324:=0
def tw2362038832617496561:=0
def tw2389848638242892102:=0
def tw2398055144460418744:=0
def tw2425333794564276225:=0
def tw2428734419237426926:=0
def tw2462097045066032079:=0
def tw2477511540455989586:=0
def tw2551343773979073764:=0
def tw2560738784897718695:=0
def tw2562276878562677708:=0
def tw2584732846472345349:=0
def tw2609490689309231563:=0
def tw2614879626343246948:=0
def tw2632497610445483241:=0
def tw2696765053221115259:=0
def tw2698149492217271803:=0
def tw275887471691876449:=0
def tw276699136972334802:=0
def tw2796354819061622730:=0
def tw2800171526694514789:=0
def tw2816804036480322997:=0
def tw2831204941892607157:=0
def tw2833124936239909905:=0
def tw283382302334506554:=0
def tw2870726280136902716:=0
def tw2892296463610681078:=0
def tw2917114482277432151:=0
def tw2921461273722201489:=0
def tw2928785455641233474:=0
def tw2933465581114201464:=0
def tw2934425533051484116:=0
def tw2952404373534578216:=0
def tw2953787965593233375:=0
def tw3044375896572403518:=0
def tw3047774869770853164:=0
def tw3109996395393505839:=0
def tw3162394823986751779:=0
def tw3162983113735846707:=0
def tw3191171532479496176:=0
def tw3192893235519633234:=0
def tw3224449610584758924:=0
def tw3241429035452795153:=0
def tw3287359627361176364:=0
def tw3297880143336238654:=0
def tw331011097179110314:=0
def tw3318544008787266353:=0
def tw3333104627388268681:=0
def tw334678536155655803:=0
def tw3348433638569897894:=0
def tw3354424086355020264:=0
def tw3406416703615991898:=0
def tw3413723464800778436:=0
def tw3440036953985295351:=0
def tw3450834025422113747:=0
def tw3451669641897774201:=0
def tw3473703376118837788:=0
def tw350185717364235481:=0
def tw3530461710626721587:=0
def tw3548864233020337551:=0
def tw3563015368792813143:=0
def tw3599038347363164507:=0
def tw3602445068196110032:=0
def tw3636847175766653851:=0
def tw3653996304525637217:=0
def tw3663481702286762135:=0
def tw3697207432867045867:=0
def tw3699018427643619114:=0
def tw3711466643107260227:=0
def tw3712302217218253442:=0
def tw3745216946530978849:=0
def tw375478936079648288:=0
def tw3778506547415213353:=0
def tw3786572146816419357:=0
def tw3787324187951200761:=0
def tw3796632696889921837:=0
def tw3828071979055328149:=0
def tw3829443404840574782:=0
def tw3832720339911921198:=0
def tw3841283525726740541:=0
def tw3845754450824752701:=0
def tw3850073162304152356:=0
def tw3863262059142120454:=0
def tw390745233072267398:=0
def tw3946718601149930444:=0
def tw398366126654993088:=0
def tw4040187901905691105:=0
def tw4106951248932591788:=0
def tw413032813513064317:=0
def tw4142855365010915624:=0
def tw4171981061869674975:=0
def tw4191994471577968972:=0
def tw421066272351879590:=0
def tw4222105119140799793:=0
def tw423985206478828892:=0
def tw4244493404020351585:=0
def tw4253059785507894142:=0
def tw4256650299785516514:=0
def tw4284198997151580693:=0
def tw4290384160328330523:=0
def tw4312041807014998516:=0
def tw4312986231881425040:=0
def tw4313956380192306602:=0
def tw4331103175713907396:=0
def tw4366952933356765946:=0
def tw4400098420932642100:=0
def tw4427257157998078157:=0
def tw4443377859554369621:=0
def tw4461223342103757371:=0
def tw448872717211374028:=0
def tw450679365783844611:=0
def tw4526907049185123016:=0
def tw4529737163960165810:=0
def tw4538854943969323664:=0
def tw4548255091569444797:=0
def tw4558935503818852031:=0
def tw4569461468520308274:=0
def tw4581457143581638823:=0
def tw4585302988836396903:=0
def tw4592294559307509932:=0
def tw4594711797073549441:=0
def tw4632589941925711905:=0
def tw4634574918700300286:=0
def tw4650500332999924595:=0
def tw4667170874970967927:=0
def tw4667419419386447232:=0
def tw4670979291410264727:=0
def tw4682489250397062516:=0
def tw4694786811290162778:=0
def tw4737181302553106418:=0
def tw4752410822863275971:=0
def tw4782892460787482535:=0
def tw4786979894728230540:=0
def tw4820279569410624748:=0
def tw4834360845261589308:=0
def tw485650936088623141:=0
def tw4856553897748323729:=0
def tw4860134383779964713:=0
def tw4873286274285333285:=0
def tw4884016701244211277:=0
def tw4890526708916012230:=0
def tw489741971645294474:=0
def tw4897852314076291468:=0
def tw4931767973165610307:=0
def tw494447978737659123:=0
def tw5008175724462921746:=0
def tw5032914591853469181:=0
def tw5059210743262795849:=0
def tw5105847974867273804:=0
def tw5158327494658003011:=0
def tw5160903679998244024:=0
def tw5173658106899542311:=0
def tw51966294846231746:=0
def tw5208312497477278458:=0
def tw5231581312145204103:=0
def tw523672034826018957:=0
def tw5246409300887320647:=0
def tw5253161021335857717:=0
def tw5330519117658252019:=0
def tw5331474363829569244:=0
def tw5343152059114240433:=0
def tw5346590227556580501:=0
def tw5348051718647562502:=0
def tw5358879427893207756:=0
def tw5420114313521899733:=0
def tw5434885875931932129:=0
def tw5447146237839317135:=0
def tw5454176547802850363:=0
def tw5512634142413813663:=0
def tw5522977110951504749:=0
def tw553384880019460044:=0
def tw5535015440024280314:=0
def tw5548200778645667447:=0
def tw5627152621210305607:=0
def tw5635257275100257489:=0
def tw5644135103554732421:=0
def tw5667233989615454956:=0
def tw567896770760669564:=0
def tw567950426745652016:=0
def tw5685725113212119703:=0
def tw5701748967044060358:=0
def tw5718474578080890250:=0
def tw5747134300005833716:=0
def tw5777907924507272775:=0
def tw5790080875811744180:=0
def tw5791114496748195344:=0
def tw5822960760991760118:=0
def tw583870644306767114:=0
def tw5912195639155448000:=0
def tw5920769221835541980:=0
def tw5944796285212035536:=0
def tw5949328990359843301:=0
def tw595492738719322170:=0
def tw5968383375574210943:=0
def tw602820439506624546:=0
def tw6043033826476169651:=0
def tw6049748705626059730:=0
def tw6063848144457893843:=0
def tw6064806060536092804:=0
def tw6085680701908234258:=0
def tw6096297554370748093:=0
def tw6133356390262523970:=0
def tw6142380829337050639:=0
def tw6162167438290737036:=0
def tw6164855331031687059:=0
def tw617288039617115869:=0
def tw6180778952142904921:=0
def tw6233601710817039543:=0
def tw6242147339424516458:=0
def tw632391511112882821:=0
def tw6324767457978664643:=0
def tw6327317215586819838:=0
def tw6348296291959709401:=0
def tw6349802755273817874:=0
def tw6362116188939461399:=0
def tw6379360108893646840:=0
def tw6406268690130805813:=0
def tw6430390208975941934:=0
def tw6466922718677539853:=0
def tw6496934987107382321:=0
def tw650050532997699477:=0
def tw6506766575466565270:=0
def tw65263027468342554:=0
def tw6551400723126508642:=0
def tw6559531159149420216:=0
def tw656047896367528764:=0
def tw6585654828303135161:=0
def tw6588009275689290136:=0
def tw6601351962510565083:=0
def tw6635612377889708338:=0
def tw6693563546258388665:=0
def tw6703573141419082259:=0
def tw6705837281425987843:=0
def tw6708718065292023964:=0
def tw6742222580112888975:=0
def tw677675394060611682:=0
def tw6804981112662950935:=0
def tw6813491193872968950:=0
def tw681994624679904216:=0
def tw6823051936749388437:=0
def tw6866083331392350095:=0
def tw6875799862032185285:=0
def tw6879735816111772929:=0
def tw6901037082440138591:=0
def tw6929782921498144233:=0
def tw6931426911377422839:=0
def tw6977821794312213073:=0
def tw7009073963472964315:=0
def tw7030039302989092772:=0
def tw7045943480031024892:=0
def tw7052256748223732024:=0
def tw7060547949527636742:=0
def tw7109561241589454738:=0
def tw7141478354102550494:=0
def tw714780198627523156:=0
def tw7170231818385732422:=0
def tw7182910135638901184:=0
def tw7199587414332719769:=0
def tw7251196178989738411:=0
def tw7274309994109253180:=0
def tw7291185829814529228:=0
def tw7331322271446382796:=0
def tw7355666427276042:=0
def tw7487463049734243524:=0
def tw7494198017605071957:=0
def tw7494393594916768022:=0
def tw749512569259704465:=0
def tw7503501586041679213:=0
def tw7503764930791727338:=0
def tw7530204244080210666:=0
def tw7537936321710142800:=0
def tw7546761932294201315:=0
def tw7551260438544960966:=0
def tw7551404400555813832:=0
def tw7559709095146291294:=0
def tw7563184233707027158:=0
def tw7584833273004126451:=0
def tw7584871938685367523:=0
def tw7643582638899149452:=0
def tw7684106135819179830:=0
def tw7700121679040285799:=0
def tw7716055303644167717:=0
def tw7735545607493296581:=0
def tw7771321739860105085:=0
def tw7773347168028507751:=0
def tw7833691805050381351:=0
def tw7843332372440948499:=0
def tw7892559308290195178:=0
def tw7950508502035092754:=0
def tw7952358372249267165:=0
def tw7991931261575377928:=0
def tw7995115404242585482:=0
def tw7999285341879468349:=0
def tw8041093253425109052:=0
def tw8047926126258670914:=0
def tw8061757126797667921:=0
def tw8065445185055527458:=0
def tw8081230575529067077:=0
def tw8090286138088953438:=0
def tw8108448309281001265:=0
def tw8112524740213374290:=0
def tw8123844962794063440:=0
def tw8125478206899350673:=0
def tw8166842730543411654:=0
def tw8170207600290807830:=0
def tw8176037433910765288:=0
def tw8179139156187822627:=0
def tw8180901151498977773:=0
def tw8226775358381572440:=0
def tw8252865717999282751:=0
def tw8262630928669100253:=0
def tw827522848138813490:=0
def tw8278473296925710816:=0
def tw8288169726660753904:=0
def tw8289194974703210756:=0
def tw8295464553869104912:=0
def tw8307609602943289796:=0
def tw8334701624672416930:=0
def tw8379363024726985883:=0
def tw839092474065363997:=0
def tw8438826267186765881:=0
def tw8438938912071114602:=0
def tw8443773159405137637:=0
def tw8446912805238926116:=0
def tw8456480848945071007:=0
def tw8460672450432656067:=0
def tw8464526070229289530:=0
def tw8470002000407251688:=0
def tw8496328064691619866:=0
def tw8520397054329827007:=0
def tw8545701086497557428:=0
def tw8590555561909947819:=0
def tw8594903669448186454:=0
def tw8599567326792232779:=0
def tw8620407837513105042:=0
def tw8655371717612602713:=0
def tw8677414793708840479:=0
def tw86797325810900092:=0
def tw8685737196832981532:=0
def tw8709710097707733166:=0
def tw8715147033954768955:=0
def tw8733867180362482834:=0
def tw8752017721626995300:=0
def tw8752832851375099804:=0
def tw8761709798931383742:=0
def tw8773931754368557438:=0
def tw8784753600472670126:=0
def tw8812861272113778088:=0
def tw8823322669989142146:=0
def tw8845308645003641472:=0
def tw8890437849540632389:=0
def tw8929417864781665691:=0
def tw8934315578232518162:=0
def tw8940462118296480314:=0
def tw8991270166066812512:=0
def tw9012728214402404944:=0
def tw9037151823711245782:=0
def tw9059421643856193710:=0
def tw9115575799593282495:=0
def tw9115640408349853412:=0
def tw9133896049476463331:=0
def tw9155123809115150980:=0
def tw9159481745627483427:=0
def tw916948100626749936:=0
def tw9231076927687797732:=0
def tw923283637760523838:=0
def tw9256771716765678016:=0
def tw9281449246167152967:=0
def tw9286956912492859739:=0
def tw9287843692869792247:=0
def tw9298096876752563338:=0
def tw9304736114017608793:=0
def tw9311673867284329777:=0
def tw9327358330801983824:=0
def tw9345103254795353886:=0
def tw9367547024064806633:=0
def tw9368040087119629914:=0
def tw9369975604891368619:=0
def tw939232224729274496:=0
def tw9402461000286045478:=0
def tw9428357681459882834:=0
def tw9457973189436544437:=0
def tw9493022987348152748:=0
def tw9537149048757853156:=0
def tw9560822738873814788:=0
def tw9576351480129783638:=0
def tw9582287340621262708:=0
def tw959022283534271407:=0
def tw9592207437098169936:=0
def tw9594296770624676205:=0
def tw9639924519942249014:=0
def tw9649171778687977167:=0
def tw9672978378597166831:=0
def tw9719660935016031714:=0
def tw9744111634543079454:=0
def tw9789942289172483038:=0
def tw9791799429200555355:=0
def tw9812918504192297185:=0
def tw9823244216924808289:=0
def tw9826264912634048319:=0
def tw9846067548260700415:=0
def tw9907800153597420644:=0
def tw991403764634983744:=0
def tw9943261887916669317:=0
def tw998801454844543166:=0
end PySem.W.Fast
open PySem PySem.W PyProof.Rows
set_option maxRecDepth 100000 in
set_option maxHeartbeats 0 in
theorem PySem.Challenge.cw_columnpages_s01_answers_holds : PySem.Challenge.rw_columnpages_s01_answers.Holds := by
 w_on;k_headS;(case hw=>exact ⟨[.list [.int 4]],by decide +kernel,by decide +kernel⟩)
 k_fillS
 refine L2.L7 (r:=PySem.Challenge.rw_columnpages_s01_answers) (k:=38) (ps:=["calls"]) (sp:=Cp.spA) (by decide +kernel) rfl rfl ⟨rfl,by decide,by decide⟩ (fun w h Y=>PySem.W.kIn_of Y) ?F ?S
 case F =>
  intro w mg fa h Y KX G hmg
  have T:Cp.b7 _ mg ⟨_,_,_,_,_,_,_,_,_,_,_,_,_,_,_,_,_,_,_,_,_,_,_,_,_,_,_,_,_,_,_,_,_,_,_,_,_,_,_,_,_,_,_,_,_,_,_,_,_,_,_,_,_,_,_,_,_,_,_,_,_,_,_,_,_,_,_,_,_,_,_,_,_,_,_,_,_,_,_,_,_,_,_,_,_,_,_,_,_,_,_,_,_,_,_,_,_,_,_,_,_,_,_,_,_,_,_,_,_,_,_,_,_,_,_⟩:=⟨Cp.fW KX G,Cp.fW KX G,Cp.fW KX G,Cp.fW KX G,Cp.fW KX G,Cp.fW KX G,Cp.fW KX G,Cp.fW KX G,Cp.fW KX G,Cp.fW KX G,Cp.fW KX G,Cp.fW KX G,Cp.fW KX G,Cp.fW KX G,Cp.fW KX G,Cp.fW KX G,Cp.fW KX G,Cp.SA KX G,Cp.SD,Cp.fW KX G,Cp.fW KX G,Cp.fW KX G,Cp.fW KX G,Cp.fW KX G,Cp.fW KX G,Cp.fW KX G,Cp.fW KX G,Cp.fW KX G,Cp.fW KX G,Cp.fW KX G,Cp.L8 KX G,Cp.L8 KX G,Cp.L8 KX G,Cp.L8 KX G,Cp.L8 KX G,Cp.L8 KX G,Cp.L8 KX G,Cp.cF KX G (Cp.Am fun _ _ _ _ _ _ _ _=>rfl),Cp.cF KX G (Cp.rR fun _ _ _ _ _ _ _=>rfl),Cp.cF KX G (Cp.rR fun _ _ _ _ _ _ _=>rfl),Cp.cF KX G (Cp.rR fun _ _ _ _ _ _ _=>rfl),Cp.cF KX G (Cp.rR fun _ _ _ _ _ _ _=>rfl),Cp.cF KX G (Cp.rR fun _ _ _ _ _ _ _=>rfl),Cp.cF KX G (Cp.rR fun _ _ _ _ _ _ _=>rfl),Cp.cF KX G (Cp.rR fun _ _ _ _ _ _ _=>rfl),Cp.cF KX G (Cp.rR fun _ _ _ _ _ _ _=>rfl),Cp.cF KX G (Cp.rR fun _ _ _ _ _ _ _=>rfl),Cp.cF KX G (Cp.rR fun _ _ _ _ _ _ _=>rfl),Cp.cF KX G (Cp.rR fun _ _ _ _ _ _ _=>rfl),Cp.cF KX G (Cp.Am fun _ _ _ _ _ _ _ _=>rfl),Cp.cF KX G (Cp.rR fun _ _ _ _ _ _ _=>rfl),Cp.cF KX G (Cp.bd0 fun _ _ _ _ _ _=>rfl),Cp.cF KX G (Cp.Am fun _ _ _ _ _ _ _ _=>rfl),Cp.cF KX G (Cp.rR fun _ _ _ _ _ _ _=>rfl),Cp.cF KX G (Cp.rR fun _ _ _ _ _ _ _=>rfl),Cp.cF KX G (Cp.bd3 fun _ _ _ _ _ _ _ _ _=>rfl),Cp.cF KX G (Cp.Am fun _ _ _ _ _ _ _ _=>rfl),Cp.cF KX G (Cp.bd3 fun _ _ _ _ _ _ _ _ _=>rfl),Cp.cF KX G (Cp.bd3 fun _ _ _ _ _ _ _ _ _=>rfl),Cp.cF KX G (Cp.rR fun _ _ _ _ _ _ _=>rfl),Cp.cF KX G (Cp.Am fun _ _ _ _ _ _ _ _=>rfl),Cp.cF KX G (Cp.bd4 fun _ _ _ _ _ _ _ _ _ _=>rfl),Cp.cF KX G (Cp.bd3 fun _ _ _ _ _ _ _ _ _=>rfl),Cp.cF KX G (Cp.bd4 fun _ _ _ _ _ _ _ _ _ _=>rfl),Cp.cF KX G (Cp.Am fun _ _ _ _ _ _ _ _=>rfl),Cp.cF KX G (Cp.rR fun _ _ _ _ _ _ _=>rfl),Cp.cF KX G (Cp.Am fun _ _ _ _ _ _ _ _=>rfl),Cp.cF KX G (Cp.bd0 fun _ _ _ _ _ _=>rfl),Cp.cF KX G (Cp.Am fun _ _ _ _ _ _ _ _=>rfl),Cp.cF KX G (Cp.Am fun _ _ _ _ _ _ _ _=>rfl),Cp.cF KX G (Cp.bd3 fun _ _ _ _ _ _ _ _ _=>rfl),Cp.cF KX G (Cp.bd4 fun _ _ _ _ _ _ _ _ _ _=>rfl),Cp.cF KX G (Cp.bd4 fun _ _ _ _ _ _ _ _ _ _=>rfl),Cp.cF KX G (Cp.bd3 fun _ _ _ _ _ _ _ _ _=>rfl),Cp.cF KX G (Cp.bd4 fun _ _ _ _ _ _ _ _ _ _=>rfl),Cp.cF KX G (Cp.bd4 fun _ _ _ _ _ _ _ _ _ _=>rfl),Cp.cF KX G (Cp.Am fun _ _ _ _ _ _ _ _=>rfl),Cp.cF KX G (Cp.Am fun _ _ _ _ _ _ _ _=>rfl),Cp.cF KX G (Cp.Am fun _ _ _ _ _ _ _ _=>rfl),Cp.cF KX G (Cp.Am fun _ _ _ _ _ _ _ _=>rfl),Cp.cF KX G (Cp.bd4 fun _ _ _ _ _ _ _ _ _ _=>rfl),Cp.cF KX G (Cp.Am fun _ _ _ _ _ _ _ _=>rfl),Cp.cF KX G (Cp.bd3 fun _ _ _ _ _ _ _ _ _=>rfl),Cp.cF KX G (Cp.bd3 fun _ _ _ _ _ _ _ _ _=>rfl),Cp.cF KX G (Cp.bd3 fun _ _ _ _ _ _ _ _ _=>rfl),Cp.cF KX G (Cp.rR fun _ _ _ _ _ _ _=>rfl),Cp.cF KX G (Cp.Am fun _ _ _ _ _ _ _ _=>rfl),Cp.cF KX G (Cp.rR fun _ _ _ _ _ _ _=>rfl),Cp.cF KX G (Cp.rR fun _ _ _ _ _ _ _=>rfl),Cp.cF KX G (Cp.rR fun _ _ _ _ _ _ _=>rfl),Cp.cF KX G (Cp.rR fun _ _ _ _ _ _ _=>rfl),Cp.cF KX G (Cp.rR fun _ _ _ _ _ _ _=>rfl),Cp.cF KX G (Cp.bd3 fun _ _ _ _ _ _ _ _ _=>rfl),Cp.cF KX G (Cp.bd3 fun _ _ _ _ _ _ _ _ _=>rfl),Cp.cF KX G (Cp.Am fun _ _ _ _ _ _ _ _=>rfl),Cp.cF KX G (Cp.rR fun _ _ _ _ _ _ _=>rfl),Cp.cF KX G (Cp.bd4 fun _ _ _ _ _ _ _ _ _ _=>rfl),Cp.cF KX G (Cp.bd3 fun _ _ _ _ _ _ _ _ _=>rfl),Cp.cF KX G (Cp.rR fun _ _ _ _ _ _ _=>rfl),Cp.cF KX G (Cp.rR fun _ _ _ _ _ _ _=>rfl),Cp.cF KX G (Cp.Am fun _ _ _ _ _ _ _ _=>rfl),Cp.cF KX G (Cp.bd3 fun _ _ _ _ _ _ _ _ _=>rfl),Cp.cF KX G (Cp.Am fun _ _ _ _ _ _ _ _=>rfl),Cp.cF KX G (Cp.Am fun _ _ _ _ _ _ _ _=>rfl),Cp.cF KX G (Cp.Am fun _ _ _ _ _ _ _ _=>rfl),Cp.cF KX G (Cp.Am fun _ _ _ _ _ _ _ _=>rfl),Cp.cF KX G (Cp.rR fun _ _ _ _ _ _ _=>rfl),Cp.cF KX G (Cp.rR fun _ _ _ _ _ _ _=>rfl),Cp.cF KX G (Cp.rR fun _ _ _ _ _ _ _=>rfl),Cp.cF KX G (Cp.rR fun _ _ _ _ _ _ _=>rfl),Cp.cF KX G (Cp.Am fun _ _ _ _ _ _ _ _=>rfl),Cp.cF KX G (Cp.rR fun _ _ _ _ _ _ _=>rfl),Cp.cF KX G (Cp.rR fun _ _ _ _ _ _ _=>rfl),Cp.cF KX G (Cp.rR fun _ _ _ _ _ _ _=>rfl),Cp.cF KX G (Cp.Am fun _ _ _ _ _ _ _ _=>rfl),Cp.GX KX G (Cp.bd3 fun _ _ _ _ _ _ _ _ _=>rfl),Cp.GX KX G (Cp.rR fun _ _ _ _ _ _ _=>rfl),Cp.EN (Cp.Am fun _ _ _ _ _ _ _ _=>rfl),Cp.EN (Cp.Am fun _ _ _ _ _ _ _ _=>rfl),Cp.EN (Cp.Am fun _ _ _ _ _ _ _ _=>rfl),Cp.EN (Cp.bd3 fun _ _ _ _ _ _ _ _ _=>rfl),Cp.GX KX G (Cp.bd4 fun _ _ _ _ _ _ _ _ _ _=>rfl),Cp.GX KX G (Cp.bd4 fun _ _ _ _ _ _ _ _ _ _=>rfl),Cp.GX KX G (Cp.bd5 fun _ _ _ _ _ _ _ _ _ _ _=>rfl),Cp.GX KX G (Cp.rR fun _ _ _ _ _ _ _=>rfl),Cp.GX KX G (Cp.bd3 fun _ _ _ _ _ _ _ _ _=>rfl),Cp.EN (Cp.Am fun _ _ _ _ _ _ _ _=>rfl),Cp.EN (Cp.rR fun _ _ _ _ _ _ _=>rfl),Cp.GX KX G (Cp.Am fun _ _ _ _ _ _ _ _=>rfl),Cp.EN (Cp.bd3 fun _ _ _ _ _ _ _ _ _=>rfl),Cp.EN (Cp.Am fun _ _ _ _ _ _ _ _=>rfl),Cp.EN (Cp.rR fun _ _ _ _ _ _ _=>rfl),Cp.GX KX G (Cp.rR fun _ _ _ _ _ _ _=>rfl),Cp.GX KX G (Cp.Am fun _ _ _ _ _ _ _ _=>rfl),Cp.EN (Cp.rR fun _ _ _ _ _ _ _=>rfl),Cp.EN (Cp.rR fun _ _ _ _ _ _ _=>rfl),Cp.eW,Cp.eW,Cp.eW,Cp.eW,Cp.eW,Cp.eW,Cp.eW,Cp.eW,Cp.eW,Cp.eW,Cp.eW,Cp.eW,Cp.eW,Cp.eW,Cp.eW,Cp.eW,Cp.eW,Cp.eW,Cp.eW,Cp.eW,Cp.eW,Cp.eW,Cp.eW,Cp.eW,Cp.eW,Cp.eW,Cp.eW,Cp.eW,Cp.eW,Cp.eW,Cp.eW,Cp.eW,Cp.eW,Cp.eW,Cp.eW,Cp.eW,Cp.eW,Cp.eW,Cp.eW,Cp.eW,Cp.eW,Cp.eW,Cp.eW,Cp.eW,Cp.eW,Cp.eW,Cp.eW,Cp.OK KX G,Cp.OK KX G,Cp.OK KX G,Cp.OK KX G,Cp.OK KX G,by dsimp only;decide,Cp.GJ,Cp.GJ,Cp.GJ,Cp.GJ,Cp.GJ,Cp.GJ,Cp.GJ,Cp.GJ,Cp.GJ,Cp.GJ⟩
  have e:=Value.ref.inj (Option.some.inj (hmg.symm.trans T.answers.m))
  subst e
  exact ⟨_,Cp.Tb T.answers (Cp.rR fun _ _ _ _ _ _ _=>rfl),fun base _ _=>Cp.L9 T⟩
 case S =>
  intro K H xs a hO hwi hask hx
  cases hx with
  | cons h1 h2 =>
   cases h2
   cases h1 with
   | lst hs ha =>
    have e:=L2.MS a.1 _ ha
    subst e
    refine ⟨_,a.1,rfl,?_,hask,fun H' p _ hp=>.lst (L2.cT.of hp) (L2.MQ _)⟩
    rcases hs with (hs|hs)|hs
    ·rcases hO _ with z|⟨o,u,z⟩
     ·rw [hs] at z;cases z
     ·rw [hs] at z;cases z
    ·exact .inl hs
    ·exact .inr hs
