import PyProof.Rows.All
import Wide.All
import OpenK.AllK
import Wide.FinOn
import PyProof.EqAt
import PyProof.EqKinds
import PyProof.TupleKey
import Wide.Seal
import PyProof.TupleCall
import KE.BitLaws
import PyProof.StationsW
import PyProof.ExcInit
import KE.KDictList
import PyProof.Rows.CatchBare
import PyProof.InstStoreFacts
import PyProof.ExcArgsOwn
import PyProof.ExcAttrAll.Exception
import PyProof.RulesAs
import PyProof.NsDelKeeps
import Open.SpecLaws
import KE.OsHead
import KE.OsGo
import KE.SpHead
import KE.OsShapes
import PySem.Challenge.RW_nameserve_s01_answer
set_option Elab.async false
set_option linter.all false
set_option bootstrap.genMatcherCode false
set_option hygiene false
set_option maxRecDepth 100000
set_option maxHeartbeats 4000000
abbrev Kp.{u}:=@Array.getElem?_eq_some_iff.{u}
abbrev JW.{u}:=@List.getElem?_eq_some_iff.{u}
abbrev K7.{u}:=@List.mem_of_find?_eq_some.{u}
abbrev K8.{u}:=@List.drop_eq_getElem_cons.{u}
abbrev Km:=@PySem.F.type_list_extend
abbrev Ko:=@PySem.F.slot_list_extend
abbrev Ks.{u}:=@List.getElem?_eq_getElem.{u}
abbrev KI:=@PySem.F.type_list_append
abbrev KJ:=@PySem.F.slot_list_append
abbrev Ka:=@PySem.F.plainAttrs_list
abbrev Kb.{u,v}:=@Option.bind_eq_some_iff.{u,v}
abbrev Ld.{u}:=@List.getElem?_cons_zero.{u}
abbrev JZ:=@PySem.Heap.get?_push_of_some
abbrev Kh.{u,v}:=@Option.map_eq_some_iff.{u,v}
abbrev KF:=@PySem.Heap.get?_update_other
abbrev Lc.{u}:=@List.getElem?_set_self.{u}
abbrev KA:=@PySem.Heap.get?_update_self
abbrev KG.{u}:=@List.mem_append_right.{u}
abbrev J0.{u}:=@List.mem_cons_of_mem.{u}
abbrev Kr.{u}:=@List.mem_of_getElem?.{u}
abbrev Kz.{u}:=@List.mem_append_left.{u}
abbrev Ll.{u}:=@List.getElem?_set_ne.{u}
abbrev Lp:=@PySem.W.hideAll_none
abbrev J6:=@PySem.Heap.get?_push_size
abbrev Ky:=@PySem.mem_of_lookup
abbrev KC.{u,v}:=@List.filterMap_cons.{u,v}
abbrev KP.{u}:=@beq_eq_false_iff_ne.{u}
abbrev Le.{u}:=@List.replicate_succ.{u}
abbrev Lr.{u}:=@Array.length_toList.{u}
abbrev JT.{u}:=@List.length_append.{u}
abbrev J8.{u}:=@List.mem_cons_self.{u}
abbrev J9:=@Bool.false_ne_true
abbrev Ki:=@Nat.lt_of_lt_of_le
abbrev KB:=@Bool.false_eq_true
abbrev KN:=@PySem.Obj.data_mapFields
abbrev K4:=@Nat.add_sub_cancel
abbrev Ke.{u}:=@List.size_toArray.{u}
abbrev Kx.{u}:=@List.append_assoc.{u}
abbrev KM:=@PySem.wpAny_newObj_type
abbrev KQ:=@PySem.wpAny_loadPart_at
abbrev KW.{u,v}:=@List.getElem?_map.{u,v}
abbrev K5.{u,v}:=@List.flatMap_cons.{u,v}
abbrev Lj:=@Int.toNat_natCast
abbrev Lo:=@decide_eq_true_eq
abbrev JS.{u}:=@List.length_cons.{u}
abbrev J4.{u}:=@List.length_drop.{u}
abbrev Kf.{u}:=@List.length_take.{u}
abbrev Kt:=@Bool.and_eq_true
abbrev K2.{u,v}:=@List.lookup_cons.{u,v}
abbrev Lf.{u}:=@List.cons_append.{u}
abbrev Ln.{u}:=@List.all_eq_true.{u}
abbrev J7.{u}:=@List.length_nil.{u}
abbrev Kj.{u}:=@List.mem_append.{u}
abbrev Kk.{u,v}:=@List.length_map.{u,v}
abbrev Kl:=@decide_eq_false
abbrev Ku.{u}:=@Option.some.inj.{u}
abbrev Kw.{u}:=@List.append_nil.{u}
abbrev K6.{u}:=@List.head?_cons.{u}
abbrev K9.{u}:=@List.nodup_cons.{u}
abbrev Lb.{u}:=@List.mem_filter.{u}
abbrev Lg.{u}:=@List.nil_append.{u}
abbrev Li.{u,v}:=@List.foldl_cons.{u,v}
abbrev Lm:=@Bool.or_eq_true
abbrev KO:=@decide_eq_true
abbrev J5.{u,v}:=@List.map_cons.{u,v}
abbrev Kg.{u}:=@List.mem_cons.{u}
abbrev KL:=@Nat.lt_irrefl
abbrev KU:=@PySem.wpAny_holding
abbrev K0.{u}:=@List.any_cons.{u}
abbrev K3.{u}:=@List.all_cons.{u}
abbrev Kc:=@PySem.Heap.lt_size
abbrev Kv:=@Nat.ne_of_lt
abbrev KH:=@Nat.le_trans
abbrev KY.{u,v,w}:=@List.map_map.{u,v,w}
abbrev KZ.{u,v}:=@List.mem_map.{u,v}
abbrev Lh.{u,v}:=@List.map_nil.{u,v}
abbrev Lq:=@PySem.W.Frag
abbrev JY:=@Nat.le_refl
abbrev Kq:=@Nat.zero_le
abbrev KS:=@PySem.wpAny_field
abbrev JR:=@PySem.wpAny_bind
abbrev JV:=@PySem.wpAny_pure
abbrev KR:=@PySem.wpAny_mono
abbrev JU.{u}:=@if_neg.{u}
abbrev JX.{u}:=@if_pos.{u}
namespace NM
open Sn12
variable{b r w a z:Bytes}{n o acc:Name}{c k f m type:Nat}{ws:List Bytes}{seen:List Name}{pl:List (Name×Nat)}
noncomputable def cutAt(m:Nat):Bytes->Bytes->List Bytes
 |[],c=>[c]
 |x::r,c=>if x=m then c::cutAt m r [] else cutAt m r (c++[x])
theorem jv:∀(t c:Bytes),pieces t c=cutAt 46 t c
 |[],c=>rfl
 |x::r,c=>by
  unfold pieces cutAt;rw[jv r,jv r]
theorem oN:∀(t c:Bytes),colons t c=cutAt 58 t c
 |[],c=>rfl
 |x::r,c=>by
  unfold colons cutAt;rw[oN r,oN r]
theorem jI(m:Nat):∀(t c:Bytes),cutAt m t c≠[]
 |[],c=>by simp[cutAt]
 |x::r,c=>by
  unfold cutAt;split
  .simp
  .exact jI m r _
theorem gR(m:Nat):∀(t c:Bytes),(cutAt m t c).length<=t.length+1
 |[],c=>by simp[cutAt]
 |x::r,c=>by
  unfold cutAt;split
  .have:=gR m r [];simp only[JS];lia
  .have:=gR m r (c++[x]);simp only[JS];lia
theorem jr(m:Nat):∀(t c p:Bytes),p∈cutAt m t c->p.length<=c.length+t.length
 |[],c,p,h=>by simp[cutAt]at h;subst h;simp
 |x::r,c,p,h=>by
  unfold cutAt at h;split at h
  .rcases Kg.mp h with e|h
   .subst e;lia
   .have:=jr m r [] p h;simp at this ⊢;lia
  .have:=jr m r _ p h;simp at this ⊢;lia
theorem oM(m:Nat)(f:Nat->Nat)(hf:∀x,f x=m↔x=m):∀(t c:Bytes),cutAt m (t.map f) (c.map f)=(cutAt m t c).map fun p=>p.map f
 |[],c=>rfl
 |x::r,c=>by
  rw[J5];unfold cutAt;by_cases h:x=m
  .rw[JX h,JX ((hf x).mpr h),J5,<-oM m f hf r []];rfl
  .rw[JU h,JU (fun z=>h ((hf x).mp z)),<-oM m f hf r (c++[x]),List.map_append];rfl
theorem mF(x:Nat):lower x=46↔x=46:=by unfold lower;split<;>lia
theorem yq(x:Nat):lower x=64↔x=64:=by unfold lower;split<;>lia
theorem yr(x:Nat):lower x=42↔x=42:=by unfold lower;split<;>lia
theorem jk(k:Nat)(hk:∀x,lower x=k↔x=k)(t:Bytes):t.map lower=[k]↔t=[k]:=by
 match t with
 |[]=>simp
 |[x]=>simp[hk]
 |x::y::r=>simp
noncomputable def gv:Bytes->Nat->Option Nat
 |[],n=>some n
 |c::r,n=>if 48<=c/\c<=57 then gv r (n*10+(c-48)) else none
theorem pd:∀(t:Bytes) (n:Nat),gv t n=if t.all digit=true then some (t.foldl (fun n c=>10*n+(c-48)) n) else none
 |[],n=>rfl
 |c::r,n=>by
  unfold gv;by_cases h:48<=c/\c<=57
  .rw[JX h,pd r];have hd:digit c=true:=by simp[digit,h]
   rw[K3,hd,Bool.true_and,Li,Nat.mul_comm n 10]
  .rw[JU h];have hd:digit c=false:=by
    unfold digit;by_cases a:48<=c
    .have b:¬c<=57:=fun b=>h ⟨a,b⟩;simp[b]
    .simp[a]
   rw[K3,hd,Bool.false_and];rfl
noncomputable def whole(word:Bytes)(limit:Nat):Option Nat :=
 if ¬(1<=word.length/\word.length<=10)\/(word.head?=some 48/\1<word.length) then none
 else match gv word 0 with
  |none=>none
  |some n=>if limit<n then none else some n
theorem mO(word:Bytes)(limit:Nat):whole word limit=upTo limit word:=by
 unfold whole upTo;rw[pd];change _=if word≠[]/\word.all digit=true/\word.length<=10/\(word.head?=some 48->word.length=1)/\number word<=limit then some (number word) else none
 cases word with
 |nil=>simp
 |cons c r =>
  by_cases hl:(c::r).length<=10
  .by_cases hz:(c::r).head?=some 48/\1<(c::r).length
   .rw[JX (.inr hz),JU];rintro⟨_,_,_,h4,_⟩;have:=h4 hz.1;lia
   .rw[JU (by
     rintro(h|h)
     .exact h ⟨by simp,hl⟩
     .exact hz h)]
    by_cases ha:(c::r).all digit=true
    .rw[JX ha];show(if limit<number (c::r) then none else some (number (c::r)))=_;by_cases hn:limit<number (c::r)
     .rw[JX hn,JU (by rintro⟨_,_,_,_,h⟩;lia)]
     .have one:(c::r).head?=some 48->(c::r).length=1:=fun h=>by
       by_cases q:1<(c::r).length
       .exact absurd ⟨h,q⟩ hz
       .have:1<=(c::r).length:=by simp
        lia
      rw[JU hn,JX ⟨by simp,ha,hl,one,by lia⟩]
    .rw[JU ha,JU (by rintro⟨_,h,_⟩;exact ha h)]
  .rw[JX (.inl fun h=>hl h.2),JU (by rintro⟨_,_,h,_⟩;exact hl h)]
theorem take_takeWhile{α:Type}(p:α->Bool):∀l:List α,l.take (l.takeWhile p).length=l.takeWhile p
 |[]=>rfl
 |x::r=>by
  rw[List.takeWhile_cons];split
  .rw[JS,List.take_succ_cons,take_takeWhile p r]
  .rfl
theorem fU{α:Type}(p:α->Bool):∀l:List α,(l.takeWhile p).length<=l.length
 |[]=>JY _
 |x::r=>by
  rw[List.takeWhile_cons];split
  .simp only[JS];have:=fU p r;lia
  .simp
theorem il{α:Type}(p:α->Bool):∀l:List α,(l.dropWhile p).length<=l.length
 |[]=>JY _
 |x::r=>by
  rw[List.dropWhile_cons];split
  .have:=il p r;simp only[JS];lia
  .exact JY _
noncomputable def plainC(c:Nat):Bool:=!(c==32||(c==59||c==34))
noncomputable def tO:Bytes->Option Nat
 |34::r=>if (r.takeWhile fun c=>c != 34).length=r.length then none else some ((r.takeWhile fun c=>c != 34).length+2)
 |b=>some (b.takeWhile plainC).length
theorem gg(n:Nat)(b:Bytes):words (n+1) b=match b.dropWhile (fun c=>c==32) with
  |[]=>some []
  |59::_=>some []
  |34::r=>if (r.takeWhile fun c=>c != 34).length=r.length then none else(words n (r.drop ((r.takeWhile fun c=>c != 34).length+1))).map fun l=>(34::(r.takeWhile fun c=>c != 34)++[34])::l
  |b=>(words n (b.drop (b.takeWhile plainC).length)).map fun l=>b.takeWhile plainC::l:=by
 rw[words];generalize List.dropWhile (fun c=>c==32) b=d
 match d with
 |[]=>rfl
 |c::r =>
  by_cases h59:c=59
  .subst h59;rfl
  .by_cases h34:c=34
   .subst h34;rfl
   .split
    .rename_i h;cases h
    .rename_i h;cases h;exact absurd rfl h59
    .rename_i h;cases h;exact absurd rfl h34
    .split
     .rename_i h;cases h
     .rename_i h;cases h;exact absurd rfl h59
     .rename_i h;cases h;exact absurd rfl h34
     .rfl
theorem jN:∀(n m:Nat) (b:Bytes),b.length<n->b.length<m->words n b=words m b
 |0,_,_,h,_=>by omega
 |_,0,_,_,h=>by omega
 |n+1,m+1,b,hn,hm=>by
  rw[gg,gg];have hd:=il (fun c=>c==32) b;have hh:=List.head?_dropWhile_not (fun c:Nat=>c==32) b;generalize b.dropWhile (fun c=>c==32)=d at hd hh
  match d,hd,hh with
  |[],_,_=>rfl
  |c::r,hd,hh =>
   simp only[JS]at hd;by_cases h59:c=59
   .subst h59;rfl
   .by_cases h34:c=34
    .subst h34;show(if _ then none else _)=(if _ then none else _);split
     .rfl
     .rw[jN n m _ (by simp only[J4];omega) (by simp only[J4];omega)]
    .have hc:c≠32:=by simpa using hh
     have hp:plainC c=true:=by simp[plainC,hc,h59,h34]
     have e1:((c::r).takeWhile plainC).length≥1:=by rw[List.takeWhile_cons,JX hp];simp
     have go:∀k,words k ((c::r).drop ((c::r).takeWhile plainC).length)=words k ((c::r).drop ((c::r).takeWhile plainC).length):=fun _=>rfl;have eq:=jN n m ((c::r).drop ((c::r).takeWhile plainC).length) (by simp only[J4,JS];omega) (by simp only[J4,JS];omega);split
     .rename_i h;cases h
     .rename_i h;cases h;exact absurd rfl h59
     .rename_i h;cases h;exact absurd rfl h34
     .rw[eq]
noncomputable def wd(b:Bytes):Option (List Bytes):=words (b.length+1) b
theorem A2{n:Nat}(h:b.length<n):words n b=wd b:=jN _ _ _ h (Nat.lt_succ_self _)
theorem tT:wd []=some []:=rfl
theorem tQ(r:Bytes):wd (59::r)=some []:=by
 unfold wd;rw[gg];rfl
theorem p8(r:Bytes):wd (32::r)=wd r:=by
 have:wd (32::r)=words (r.length+1+1) r:=by
  unfold wd;rw[JS,gg,gg];rfl
 rw[this];exact A2 (by lia)
theorem tN(r:Bytes):tO (34::r)=if (r.takeWhile fun c=>c != 34).length=r.length then none else some ((r.takeWhile fun c=>c != 34).length+2):=rfl
theorem xG(h:c≠34)(r:Bytes):tO (c::r)=some ((c::r).takeWhile plainC).length:=by
 unfold tO;split
 .rename_i e;cases e;exact absurd rfl h
 .rfl
theorem qg(h:¬(r.takeWhile fun c=>c != 34).length=r.length):(34::r).take ((r.takeWhile fun c=>c != 34).length+2)=34::(r.takeWhile fun c=>c != 34)++[34]:=by
 rw[List.take_succ_cons,Lf];congr 1;induction r with
 |nil=>simp at h
 |cons c r ih =>
  rw[List.takeWhile_cons]at h ⊢;by_cases hc:(c != 34)=true
  .rw[JX hc]at h ⊢;simp only[JS]at h ⊢;rw[List.take_succ_cons,ih (by lia)];rfl
  .rw[JU hc];have:c=34:=by simpa using hc
   subst this;rfl
theorem tP(r:Bytes)(h1:c≠32)(h2:c≠59):wd (c::r)=match tO (c::r) with
  |none=>none
  |some k=>(wd ((c::r).drop k)).map fun l=>(c::r).take k::l:=by
 by_cases h34:c=34
 .subst h34;rw[tN];have:wd (34::r)=if (r.takeWhile fun c=>c != 34).length=r.length then none else(words (r.length+1) (r.drop ((r.takeWhile fun c=>c != 34).length+1))).map fun l=>(34::(r.takeWhile fun c=>c != 34)++[34])::l:=by
   unfold wd;rw[gg];rfl
  rw[this];split
  .rfl
  .rename_i h;have e:=qg h;rw[A2 (by rw[J4];omega)];show _=Option.map _ _;rw[e];rfl
 .rw[xG h34];have hp:plainC c=true:=by simp[plainC,h1,h2,h34]
  have hd:(c::r).dropWhile (fun c=>c==32)=c::r:=by
   rw[List.dropWhile_cons,JU (by simpa using h1)]
  have:wd (c::r)=(words (c::r).length ((c::r).drop ((c::r).takeWhile plainC).length)).map fun l=>(c::r).takeWhile plainC::l:=by
   unfold wd;rw[gg,hd];split
   .rename_i h;cases h
   .rename_i h;cases h;exact absurd rfl h2
   .rename_i h;cases h;exact absurd rfl h34
   .rfl
  rw[this];have e1:((c::r).takeWhile plainC).length≥1:=by rw[List.takeWhile_cons,JX hp];simp
  rw[A2 (by rw[J4,JS];omega)];show _=Option.map _ _;rw[take_takeWhile]
theorem kl(h1:c≠32)(h2:c≠59)(h:tO (c::r)=some k):1<=k/\k<=(c::r).length:=by
 by_cases h34:c=34
 .subst h34;rw[tN]at h;split at h
  .cases h
  .rename_i q;cases h;have:=fU (fun c=>c != 34) r;simp only[JS];lia
 .rw[xG h34]at h;cases h;have hp:plainC c=true:=by simp[plainC,h1,h2,h34]
  refine⟨?_,fU _ _⟩;rw[List.takeWhile_cons,JX hp];simp
structure oR (w:Bytes):Prop where
 ne:w≠[]
 q:w.head?=some 34->∃t,w=34::t++[34]
theorem vB:∀(n:Nat) (b:Bytes) (l:List Bytes),b.length<=n->wd b=some l->∀w∈l,oR w/\w.length<=b.length/\∀x∈w,x∈b
 |n,[],l,_,h,w,hw=>by rw[tT]at h;cases h;cases hw
 |0,c::r,l,hb,_,_,_=>by simp at hb
 |n+1,c::r,l,hb,h,w,hw=>by
  have hb':r.length<=n:=by simpa using hb
  by_cases h59:c=59
  .subst h59;rw[tQ]at h;cases h;cases hw
  .by_cases h32:c=32
   .subst h32;rw[p8]at h;obtain⟨a1,a2,a3⟩:=vB n r l hb' h w hw;exact⟨a1,by simp only[JS];lia,fun x hx=>J0 _ (a3 x hx)⟩
   .rw[tP r h32 h59]at h;cases e:tO (c::r) with
    |none=>rw[e]at h;cases h
    |some k =>
     rw[e]at h;obtain⟨k1,k2⟩:=kl h32 h59 e;obtain⟨l',e',rfl⟩:=Kh.mp h;rcases Kg.mp hw with rfl|hw
     .refine⟨⟨?_,fun hq=>?_⟩,?_,fun x hx=>List.mem_of_mem_take hx⟩
      .intro q;have:=congrArg List.length q;rw[Kf,J7]at this;lia
      .have h34:c=34:=by
        have:((c::r).take k).head?=some c:=by
         obtain⟨j,rfl⟩:∃j,k=j+1:=⟨k-1,by lia⟩
         rfl
        rw[this]at hq;exact Ku hq
       subst h34;rw[tN]at e;split at e
       .cases e
       .rename_i q;cases e;exact⟨_,qg q⟩
      .rw[Kf];lia
     .obtain⟨a1,a2,a3⟩:=vB n _ l' (by rw[J4,JS];lia) e' w hw;exact⟨a1,by rw[J4]at a2;lia,fun x hx=>List.mem_of_mem_drop (a3 x hx)⟩
theorem mP:∀(n:Nat) (b:Bytes) (l:List Bytes),b.length<=n->wd b=some l->l.length<=b.length
 |n,[],l,_,h=>by rw[tT]at h;cases h;simp
 |0,c::r,l,hb,_=>by simp at hb
 |n+1,c::r,l,hb,h=>by
  have hb':r.length<=n:=by simpa using hb
  by_cases h59:c=59
  .subst h59;rw[tQ]at h;cases h;simp
  .by_cases h32:c=32
   .subst h32;rw[p8]at h;have:=mP n r l hb' h;simp only[JS];lia
   .rw[tP r h32 h59]at h;cases e:tO (c::r) with
    |none=>rw[e]at h;cases h
    |some k =>
     rw[e]at h;obtain⟨k1,k2⟩:=kl h32 h59 e;obtain⟨l',e',rfl⟩:=Kh.mp h;have:=mP n _ l' (by rw[J4,JS];lia) e';rw[J4]at this;rw[JS];lia
theorem a7{α β:Type}(f:α->Option β)(x:α)(r:List α):(x::r).mapM f=(f x).bind fun a=>(r.mapM f).map fun b=>a::b:=by
 rw[List.mapM_cons];cases f x with
 |none=>rfl
 |some a =>
  cases r.mapM f with
  |none=>rfl
  |some b=>rfl
theorem bB{α β:Type}(f:α->Option β):∀(l:List α) (m:List β),l.mapM f=some m->m.length=l.length
 |[],m,h=>by cases h;rfl
 |x::r,m,h=>by
  rw[a7]at h;cases e:f x with
  |none=>rw[e]at h;cases h
  |some a =>
   rw[e]at h;obtain⟨b,hb,rfl⟩:=Kh.mp h;rw[JS,JS,bB f r b hb]
theorem kT{α β:Type}(f:α->Option β):∀(l:List α) (m:List β),l.mapM f=some m->∀b∈m,∃a∈l,f a=some b
 |[],m,h,b,hb=>by cases h;cases hb
 |x::r,m,h,b,hb=>by
  rw[a7]at h;cases e:f x with
  |none=>rw[e]at h;cases h
  |some a =>
   rw[e]at h;obtain⟨c,hc,rfl⟩:=Kh.mp h;rcases Kg.mp hb with rfl|hb
   .exact⟨x,J8,e⟩
   .obtain⟨y,hy,hy2⟩:=kT f r c hc b hb;exact⟨y,J0 _ hy,hy2⟩
theorem zt{α β:Type}(p:α->Bool)(g:α->β):∀l:List α,l.mapM (fun x=>if p x=true then some (g x) else none)=if l.all p=true then some (l.map g) else none
 |[]=>rfl
 |x::r=>by
  rw[a7,zt p g r,K3];by_cases h:p x=true
  .rw[JX h,h,Bool.true_and];by_cases q:r.all p=true
   .rw[JX q,JX q];rfl
   .rw[JU q,JU q];rfl
  .rw[JU h];have:p x=false:=by simpa using h
   rw[this,Bool.false_and];rfl
theorem oE{α β:Type}(f:α->Option β):∀(l:List α) (x:α),(l++[x]).mapM f=(l.mapM f).bind fun a=>(f x).map fun b=>a++[b]
 |[],x=>by
  rw[Lg,a7];cases f x<;>rfl
 |y::l,x=>by
  rw[Lf,a7,a7,oE f l x];cases f y with
  |none=>rfl
  |some a =>
   cases l.mapM f with
   |none=>rfl
   |some b=>cases f x<;>rfl
noncomputable def fg(l:Bytes):Bool:=decide (1<=l.length/\l.length<=63)&&l.all labelChar
noncomputable def gn(p:Bytes):Option Bytes:=if fg (p.map lower)=true then some (p.map lower) else none
noncomputable def fH(w:Bytes):Option Name :=
 match cutAt 46 w []with
 |[]=>none
 |p::ps=>if p=[42] then(ps.mapM gn).map ([42]::·) else(p::ps).mapM gn
noncomputable def readName(origin:Name)(w:Bytes):Option Name :=
 if w=[64] then some origin
 else if w=[46] then some []
 else(if w.getLast?=some 46 then fH w.dropLast else(fH w).map (· ++ origin)).bind fun n=>if 255<size n then none else some n
structure f7 (o:Name):Prop where
 ok:o.all fg=true
 sz:size o<=255
theorem mZ:f7 []:=⟨rfl,by decide⟩
theorem sZ(l:Bytes):label l=(l==[42]||fg l):=rfl
theorem xI:fg [42]=false:=by decide
theorem A4{l:Bytes}(h:fg l=true):(l != [42])=true:=by
 by_cases e:l=[42]
 .subst e;rw[xI]at h;cases h
 .simp[e]
theorem iV:∀(l:List Bytes),(l.all label=true/\l.all (fun x=>x != [42])=true)↔l.all fg=true
 |[]=>by simp
 |x::r=>by
  have ih:=iV r;simp only[K3,Kt,sZ]at ih ⊢;constructor
  .rintro⟨⟨h1,h2⟩,h3,h4⟩;have hx:fg x=true:=by
    have:(x==[42])=false:=by simpa using h3
    rw[this,Bool.false_or]at h1;exact h1
   exact⟨hx,ih.mp ⟨h2,h4⟩⟩
  .rintro⟨h1,h2⟩;obtain⟨h3,h4⟩:=ih.mpr h2;exact⟨⟨by rw[h1,Bool.or_true],h3⟩,A4 h1,h4⟩
theorem o6(q:Bytes)(qs:List Bytes):((q::qs).all label=true/\((q::qs).drop 1).all (fun l=>l != [42])=true)↔((q=[42]\/fg q=true)/\qs.all fg=true):=by
 rw[List.drop_succ_cons,List.drop_zero,K3,Kt,sZ];rw[<-iV qs];constructor
 .rintro⟨⟨h1,h2⟩,h3⟩;refine⟨?_,h2,h3⟩;rcases(Lm _ _).mp h1 with h|h
  .exact .inl (by simpa using h)
  .exact .inr h
 .rintro⟨h1,h2,h3⟩;refine⟨⟨?_,h2⟩,h3⟩;rcases h1 with h|h
  .subst h;simp
  .rw[h,Bool.or_true]
theorem kQ(ps:List Bytes):ps.mapM gn=if (ps.map fun p=>p.map lower).all fg=true then some (ps.map fun p=>p.map lower) else none:=by
 have:=zt (fun p:Bytes=>fg (p.map lower)) (fun p=>p.map lower) ps;rw[List.all_map];exact this
theorem sY(w:Bytes)(o:Name)(ho:o.all fg=true):
  (fH w).map (· ++ o)=(if (((cutAt 46 (w.map lower) [])++o).all label=true/\(((cutAt 46 (w.map lower) [])++o).drop 1).all (fun l=>l != [42])=true) then some (cutAt 46 (w.map lower) []++o) else none):=by
 have e:cutAt 46 (w.map lower) []=(cutAt 46 w []).map fun p=>p.map lower:=oM 46 lower mF w [];rw[e];unfold fH;cases h:cutAt 46 w []with
 |nil=>exact absurd h (jI _ _ _)
 |cons p ps =>
  rw[J5,Lf];simp only[o6];by_cases hp:p=[42]
  .subst hp;simp only[if_true];have hl:([42]:Bytes).map lower=[42]:=rfl;rw[hl,kQ];by_cases hv:(ps.map fun p=>p.map lower).all fg=true
   .rw[JX hv,JX ⟨.inl rfl,by rw[List.all_append,hv,ho];rfl⟩];rfl
   .rw[JU hv,JU (by
     rintro⟨_,h2⟩;rw[List.all_append,Kt]at h2;exact hv h2.1)]
    rfl
  .rw[JU hp,kQ,J5,K3];have hne:¬p.map lower=[42]:=fun z=>hp ((jk 42 yr p).mp z);by_cases hv:(fg (p.map lower)&&(ps.map fun p=>p.map lower).all fg)=true
   .rw[JX hv];rw[Kt]at hv;rw[JX ⟨.inr hv.1,by rw[List.all_append,hv.2,ho];rfl⟩];rfl
   .rw[JU hv,JU (by
     rintro⟨h1,h2⟩;rw[List.all_append,Kt]at h2;rcases h1 with h1|h1
     .exact hne h1
     .exact hv (by rw[h1,h2.1];rfl))]
    rfl
theorem jb(w:Bytes):(w.map lower).getLast?=some 46↔w.getLast?=some 46:=by
 rw[List.getLast?_map];cases w.getLast? with
 |none=>simp
 |some x=>simp[mF]
theorem i8(ho:f7 o)(w:Bytes):readName o w=nameOf o w:=by
 have fin:∀(n:Name),(if (n.all label=true/\(n.drop 1).all (fun l=>l != [42])=true/\size n<=255) then some n else none) =
   (if (n.all label=true/\(n.drop 1).all (fun l=>l != [42])=true) then some n else none).bind fun n=>if 255<size n then none else some n:=by
  intro n;by_cases h:n.all label=true/\(n.drop 1).all (fun l=>l != [42])=true
  .rw[JX h];show _=if 255<size n then none else some n
   by_cases hs:255<size n
   .rw[JX hs,JU (by rintro⟨_,_,h⟩;lia)]
   .rw[JU hs,JX ⟨h.1,h.2,by lia⟩]
  .rw[JU h,JU (by rintro⟨a,b,_⟩;exact h ⟨a,b⟩)];rfl
 unfold readName nameOf;by_cases h64:w=[64]
 .subst h64;have hv:∀(l:List Bytes),l.all fg=true->(l.all label=true/\(l.drop 1).all (fun l=>l != [42])=true):=by
   intro l hl;obtain⟨a,b⟩:=(iV l).mpr hl;refine⟨a,?_⟩;rw[Ln]at b ⊢;exact fun x hx=>b x (List.mem_of_mem_drop hx)
  obtain⟨a,b⟩:=hv o ho.ok;have e:([64]:Bytes).map lower=[64]:=rfl;simp only[e,if_true];show some o=if _ then some o else none
  rw[JX ⟨a,b,ho.sz⟩]
 .rw[JU h64];have n64:¬w.map lower=[64]:=fun z=>h64 ((jk 64 yq w).mp z);by_cases h46:w=[46]
  .subst h46;rfl
  .rw[JU h46];have n46:¬w.map lower=[46]:=fun z=>h46 ((jk 46 mF w).mp z);simp only[JU n64,JU n46];by_cases hl:w.getLast?=some 46
   .rw[JX hl,JX ((jb w).mpr hl)];show _=if _ then _ else _
    rw[jv,fin,<-List.map_dropLast];have:=sY w.dropLast [] rfl;simp only[Kw,Option.map_id']at this;rw[<-this]
   .rw[JU hl,JU (fun z=>hl ((jb w).mp z))];show _=if _ then _ else _
    rw[jv,fin,<-sY w o ho.ok]
structure vg (n:Name):Prop where
 lb:n.all label=true
 st:(n.drop 1).all (fun l=>l != [42])=true
 sz:size n<=255
theorem sX(h:nameOf o w=some n):vg n:=by
 unfold nameOf at h;obtain⟨m,_,h2⟩:=Kb.mp h;split at h2
 .rename_i q;cases h2;exact⟨q.1,q.2.1,q.2.2⟩
 .cases h2
theorem size_cons(l:Bytes)(n:Name):size (l::n)=l.length+1+size n:=by
 unfold size;simp only[J5,List.sum_cons];lia
theorem size_pos(n:Name):1<=size n:=by unfold size;lia
theorem Ao(h:vg n)(hs:n.head?≠some [42]):f7 n:=by
 refine⟨?_,h.sz⟩;cases n with
 |nil=>rfl
 |cons q qs =>
  obtain⟨h1,h2⟩:=(o6 q qs).mp ⟨h.lb,h.st⟩;rcases h1 with h1|h1
  .exact absurd (by rw[h1];rfl) hs
  .rw[K3,h1,h2];rfl
noncomputable def dW(n:Nat):Bytes:=[n/256,n%256]
noncomputable def gF(n:Nat):Bytes:=dW (n/65536)++dW (n%65536)
theorem iu{n:Nat}(h:n<65536):dW n=two n:=by
 unfold dW two;rw[Nat.mod_eq_of_lt (show n/256<256 by lia)]
theorem wN{n:Nat}(h:n<4294967296):gF n=four n:=by
 unfold gF four;rw[iu (by lia),iu (by lia)]
theorem eG{α β:Type}{f g:α->List β}:∀{l:List α},(∀x∈l,f x=g x)->l.flatMap f=l.flatMap g
 |[],_=>rfl
 |x::r,h=>by
  rw[K5,K5,h x J8,eG fun y hy=>h y (J0 _ hy)]
theorem lC{n:Nat}{t:Bytes}(h:upTo m t=some n):n<=m:=by
 unfold upTo at h;split at h
 .rename_i q;cases h;exact q.2.2.2.2
 .cases h
noncomputable def gk(w:Bytes):Option Bytes:=if (cutAt 46 w []).length≠4 then none else(cutAt 46 w []).mapM fun p=>whole p 255
theorem ud(w:Bytes):gk w=address4 w:=by
 unfold gk address4;rw[jv];have e:(fun p=>whole p 255)=upTo 255:=by funext p;exact mO p 255
 rw[e];by_cases h:(cutAt 46 w []).length=4
 .rw[JU (by lia)];cases q:(cutAt 46 w []).mapM (upTo 255) with
  |none=>rfl
  |some l =>
   have hl:=bB _ _ _ q;rw[h]at hl
   match l,hl with
   |[a,b,c,d],_=>rfl
 .rw[JX h];cases q:(cutAt 46 w []).mapM (upTo 255) with
  |none=>rfl
  |some l =>
   have hl:=bB _ _ _ q;split
   .rename_i e2;cases e2;simp at hl;lia
   .rfl
noncomputable def wF(c:Nat):Option Nat:=if 48<=lower c/\lower c<=57 then some (lower c-48) else if 97<=lower c/\lower c<=102 then some (lower c-87) else none
theorem Eu(c:Nat):wF c=hexDigit c:=by
 unfold wF hexDigit;by_cases h:digit c=true
 .rw[JX h];have hc:48<=c/\c<=57:=by simpa [digit]using h
  have hl:lower c=c:=by unfold lower;rw[JU (by lia)]
  rw[hl,JX hc]
 .rw[JU h];have hc:¬(48<=c/\c<=57):=by simpa [digit]using h
  rw[JU (by unfold lower;split<;>lia)]
theorem Et{n:Nat}(h:wF c=some n):n<16:=by
 unfold wF at h;split at h
 .cases h;lia
 .split at h
  .cases h;lia
  .cases h
noncomputable def j8:Bytes->Nat->Option Nat
 |[],n=>some n
 |c::r,n=>(wF c).bind fun k=>j8 r (n*16+k)
theorem wD:∀(t:Bytes) (n:Nat),j8 t n=(t.mapM hexDigit).map fun l=>l.foldl (fun n k=>16*n+k) n
 |[],n=>rfl
 |c::r,n=>by
  rw[a7];unfold j8;rw[Eu];cases hexDigit c with
  |none=>rfl
  |some k =>
   show j8 r (n*16+k)=_;rw[wD r];show _=Option.map _ (Option.map _ _);cases r.mapM hexDigit with
   |none=>rfl
   |some l =>
    dsimp only[Option.map];rw[Li,Nat.mul_comm n 16]
theorem wC:∀(t:Bytes) (n m:Nat),j8 t n=some m->m<(n+1)*16^t.length
 |[],n,m,h=>by simp[j8]at h;subst h;simp
 |c::r,n,m,h=>by
  unfold j8 at h;obtain⟨k,hk,h⟩:=Kb.mp h;have hk:=Et hk;have:=wC r _ _ h;rw[JS,Nat.pow_succ];have h2:(n*16+k+1)*16^r.length<=((n+1)*16)*16^r.length:=Nat.mul_le_mul_right _ (by lia);have h3:(n+1)*16*16^r.length=(n+1)*(16^r.length*16):=by rw[Nat.mul_assoc,Nat.mul_comm 16]
  lia
noncomputable def fP(t:Bytes):Option Nat:=if ¬(1<=t.length/\t.length<=4) then none else j8 t 0
theorem uf(t:Bytes):fP t=group t:=by
 unfold fP group;rw[wD];by_cases h:1<=t.length/\t.length<=4
 .rw[JU (by simpa using h),JX h]
 .rw[JX h,JU h]
theorem ue{t:Bytes}{n:Nat}(h:fP t=some n):n<65536:=by
 unfold fP at h;split at h
 .cases h
 .rename_i q;have q:1<=t.length/\t.length<=4:=Decidable.not_not.mp q;have h1:=wC _ _ _ h;have:16^t.length<=16^4:=Nat.pow_le_pow_right (by decide) q.2;have e:(16:Nat)^4=65536:=by decide
  lia
noncomputable def bI(t:Bytes):Option (List Nat):=(cutAt 58 t []).mapM fP
theorem gX{t:Bytes}(h:t≠[]):bI t=groups t:=by
 unfold bI groups;rw[JU h,oN];have e:fP=group:=by funext p;exact uf p
 rw[e]
noncomputable def eI(t:Bytes):Option (List Nat) :=
 match twoColons t with
 |none=>bI t
 |some g=>(if 0<g then bI (t.take g) else some []).bind fun a=>(if g+2<t.length then bI (t.drop (g+2)) else some []).bind fun b =>
  if 8<a.length+b.length+1 then none else some (a++List.replicate (8-a.length-b.length) 0++b)
noncomputable def iM(t:Bytes):Option Bytes:=(eI t).bind fun l=>if l.length≠8 then none else some (l.flatMap dW)
theorem mQ:∀{t:Bytes} {g:Nat},twoColons t=some g->g+2<=t.length
 |[],g,h=>by cases h
 |[c],g,h=>by
  unfold twoColons at h;split at h
  .rename_i e;cases e
  .rename_i e;cases e;cases h
  .cases h
 |c::d::r,g,h=>by
  unfold twoColons at h;split at h
  .cases h;rename_i e;cases e;simp
  .rename_i r' _ e;cases e;obtain⟨k,hk,rfl⟩:=Kh.mp h;have:=mQ hk;simp only[JS]at this ⊢;lia
  .rename_i e;cases e
theorem vc{t:Bytes}{l:List Nat}(h:eI t=some l):∀x∈l,x<65536:=by
 have gs:∀{u:Bytes} {m:List Nat},bI u=some m->∀x∈m,x<65536:=by
  intro u m hm x hx;obtain⟨p,_,hp⟩:=kT _ _ _ hm x hx;exact ue hp
 unfold eI at h;split at h
 .exact gs h
 .obtain⟨a,ha,h⟩:=Kb.mp h;obtain⟨b,hb,h⟩:=Kb.mp h;split at h
  .cases h
  .cases h;intro x hx;rcases Kj.mp hx with hx|hx
   .rcases Kj.mp hx with hx|hx
    .split at ha
     .exact gs ha x hx
     .cases ha;cases hx
    .have:=List.eq_of_mem_replicate hx;lia
   .split at hb
    .exact gs hb x hx
    .cases hb;cases hx
theorem vV(t:Bytes):iM t=address6 t:=by
 have fin:∀{l:List Nat},eI t=some l->l.flatMap dW=l.flatMap two:=fun h=>eG fun x hx=>iu (vc h x hx);unfold iM address6;cases hg:twoColons t with
 |none =>
  have e:eI t=bI t:=by unfold eI;rw[hg]
  show _=(match groups t with|some l=>if l.length=8 then some (l.flatMap two) else none|none=>none);by_cases ht:t=[]
  .subst ht;rw[e];decide
  .rw[e,gX ht];cases q:groups t with
   |none=>rfl
   |some l =>
    have f:=fin (l:=l) (by rw[e,gX ht];exact q);show(if _ then none else _)=if _ then _ else none
    by_cases h8:l.length=8
    .rw[JU (by lia),JX h8,f]
    .rw[JX h8,JU h8]
 |some g =>
  have e:eI t=(if 0<g then bI (t.take g) else some []).bind fun a=>(if g+2<t.length then bI (t.drop (g+2)) else some []).bind fun b =>
   if 8<a.length+b.length+1 then none else some (a++List.replicate (8-a.length-b.length) 0++b):=by unfold eI;rw[hg]
  have hlt:=mQ hg;have e1:(if 0<g then bI (t.take g) else some [])=groups (t.take g):=by
   by_cases h0:0<g
   .rw[JX h0,gX];intro z;have:=congrArg List.length z;rw[Kf,J7]at this;lia
   .have:g=0:=by lia
    subst this;rfl
  have e2:(if g+2<t.length then bI (t.drop (g+2)) else some [])=groups (t.drop (g+2)):=by
   by_cases h0:g+2<t.length
   .rw[JX h0,gX];intro z;have:=congrArg List.length z;rw[J4,J7]at this;lia
   .rw[JU h0,List.drop_eq_nil_of_le (by lia)];rfl
  rw[e1,e2]at e;show _=(match groups (t.take g),groups (t.drop (g+2)) with|some a,some b=>if a.length+b.length<=7 then some ((a++(List.replicate (8-a.length-b.length) 0++b)).flatMap two) else none|_,_=>none);cases qa:groups (t.take g) with
  |none=>rw[e,qa];rfl
  |some a =>
   cases qb:groups (t.drop (g+2)) with
   |none=>rw[e,qa,qb];rfl
   |some b =>
    rw[qa,qb]at e;have e:eI t=if 8<a.length+b.length+1 then none else some (a++List.replicate (8-a.length-b.length) 0++b):=e
    show _=if _ then _ else _
    by_cases h7:a.length+b.length<=7
    .rw[JU (by lia)]at e;have f:=fin e;rw[e];show(if _ then none else _)=_;have hl:(a++List.replicate (8-a.length-b.length) 0++b).length=8:=by simp only[JT,List.length_replicate];lia
     rw[JU (by lia),JX h7,f,Kx]
    .rw[JX (by lia)]at e;rw[e,JU h7];rfl
theorem jc{α β:Type}{f:α->List β}(hf:∀x,(f x).length=k):∀l:List α,(l.flatMap f).length=l.length*k
 |[]=>by simp
 |x::r=>by rw[K5,JT,hf,jc hf r,JS,Nat.succ_mul];lia
theorem kq:∀{t:Bytes},twoColons t=none↔∀i,i+1<t.length->¬(t[i]?=some 58/\t[i+1]?=some 58)
 |[]=>by simp[twoColons]
 |[c]=>by simp[twoColons]
 |c::d::r=>by
  have ih:=kq (t:=d::r);by_cases h:c=58/\d=58
  .obtain⟨rfl,rfl⟩:=h;constructor
   .intro z;cases z
   .intro z;exact absurd ⟨rfl,rfl⟩ (z 0 (by simp))
  .have e:twoColons (c::d::r)=(twoColons (d::r)).map (· + 1):=by
    rw[twoColons];intro x hc q;cases q;exact h ⟨hc,rfl⟩
   rw[e,Option.map_eq_none_iff,ih];constructor
   .intro z i hi q;cases i with
    |zero=>exact h ⟨by simpa using q.1,by simpa using q.2⟩
    |succ i=>exact z i (by simpa using hi) (by simpa using q)
   .intro z i hi q;exact z (i+1) (by simpa using hi) (by simpa using q)
theorem km:∀{t:Bytes} {g:Nat},t[g]?=some 58->t[g+1]?=some 58->(∀i,i<g->¬(t[i]?=some 58/\t[i+1]?=some 58))->twoColons t=some g
 |[],g,h,_,_=>by simp at h
 |[c],g,h1,h2,_=>by simp at h2
 |c::d::r,0,h1,h2,_=>by
  have a:c=58:=by simpa using h1
  have b:d=58:=by simpa using h2
  subst a;subst b;rfl
 |c::d::r,g+1,h1,h2,h3=>by
  have ih:=km (t:=d::r) (g:=g) (by simpa using h1) (by simpa using h2) fun i hi q=>h3 (i+1) (by lia) (by simpa using q);have h:=h3 0 (by lia);have e:twoColons (c::d::r)=(twoColons (d::r)).map (· + 1):=by
   rw[twoColons];intro x hc q;cases q;exact h ⟨by rw[hc];rfl,rfl⟩
  rw[e,ih];rfl
inductive Kd where
 |A|NS|CNAME|SOA|PTR|MX|TXT|AAAA|SRV
 deriving DecidableEq
noncomputable def Kd.txt:Kd->String
 |.A=>"A" | .NS=>"NS" | .CNAME=>"CNAME" | .SOA=>"SOA" | .PTR=>"PTR" | .MX=>"MX" | .TXT=>"TXT" | .AAAA=>"AAAA" | .SRV=>"SRV"
noncomputable def Kd.num:Kd->Nat
 |.A=>1 | .NS=>2 | .CNAME=>5 | .SOA=>6 | .PTR=>12 | .MX=>15 | .TXT=>16 | .AAAA=>28 | .SRV=>33
noncomputable def kinds:List Kd:=[.A,.NS,.CNAME,.SOA,.PTR,.MX,.TXT,.AAAA,.SRV]
noncomputable def Kd.sign(k:Kd):Bytes:=ascii k.txt
noncomputable def kindAt(w:Bytes):Option Kd:=kinds.find? fun k=>decide (w=k.sign)
theorem Kd.num_inj:∀{a b:Kd},a.num=b.num->a=b:=by intro a b;cases a<;>cases b<;>decide
theorem wx{k:Kd}(h:kindAt w=some k):w=k.sign:=by
 have:=List.find?_some h;exact of_decide_eq_true this
theorem wy(h:kindAt w=none)(k:Kd):w≠k.sign:=by
 have:=List.find?_eq_none.mp h k (by cases k<;>decide);exact fun e=>this (KO e)
structure rM where
 front:Bytes
 names:List Name
 back:Bytes
 deriving DecidableEq
variable{s:rM}
noncomputable def j1:Kd->Nat×Nat×Nat
 |.NS=>(0,1,0) | .CNAME=>(0,1,0) | .PTR=>(0,1,0) | .SOA=>(0,2,5) | .MX=>(1,1,0) | .SRV=>(3,1,0)|_=>(0,0,0)
noncomputable def readText(w:Bytes):Option Bytes:=if w.head?≠some 34\/257<w.length then none else some (w.drop 1).dropLast
noncomputable def gH(ws:List Bytes):Option Bytes:=if ws=[] then none else(ws.mapM readText).map fun l=>l.flatMap fun t=>t.length::t
noncomputable def a9(o:Name)(y:Nat×Nat×Nat)(ws:List Bytes):Option rM :=
 if ws.length≠y.1+y.2.1+y.2.2 then none
 else((ws.take y.1).mapM fun w=>whole w 65535).bind fun f=>(((ws.drop y.1).take y.2.1).mapM (readName o)).bind fun ns=>((ws.drop (y.1+y.2.1)).mapM fun w=>whole w 4294967295).map fun b =>
  ⟨f.flatMap dW,ns,b.flatMap gF⟩
noncomputable def m4:List Bytes->Option Bytes
 |[w]=>some w
 |_=>none
noncomputable def fV(o:Name)(k:Kd)(ws:List Bytes):Option rM:=match k with
 |.A=>(m4 ws).bind fun w=>(gk w).map fun b=>⟨b,[],[]⟩
 |.AAAA=>(m4 ws).bind fun w=>(iM w).map fun b=>⟨b,[],[]⟩
 |.TXT=>(gH ws).map fun b=>⟨b,[],[]⟩
 |k=>a9 o (j1 k) ws
noncomputable def piecesOf:Kd->rM->List Piece
 |.A,s=>[.bytes s.front]
 |.AAAA,s=>[.bytes s.front]
 |.TXT,s=>[.bytes s.front]
 |.MX,s=>.bytes s.front::s.names.map fun n=>.name n true
 |.SRV,s=>.bytes s.front::s.names.map fun n=>.name n false
 |.SOA,s=>(s.names.map fun n=>.name n true)++[.bytes s.back]
 |_,s=>s.names.map fun n=>.name n true
theorem vT(h:oR w):(readText w).map (fun t=>t.length::t)=quotedText w:=by
 unfold readText quotedText
 match w,h with
 |[],h=>exact absurd rfl h.ne
 |c::r,h =>
  by_cases hc:c=34
  .subst hc;obtain⟨t,e⟩:=h.q rfl;have er:r=t++[34]:=by
    rw[Lf]at e;exact(List.cons.inj e).2
   subst er;simp only[List.getLast?_append,List.getLast?_singleton,Option.some_or,JT,JS,J7,List.drop_succ_cons,List.drop_zero,List.dropLast_concat,K6,ne_eq,not_true_eq_false,false_or,true_and];by_cases hl:t.length+1<=256
   .rw[JU (by lia),JX hl];show some _=some _;rw[show t.length+(0+1)-1=t.length by lia]
   .rw[JX (by lia),JU (by simpa using hl)];rfl
  .rw[JX (.inl (by simpa using hc))];split
   .rename_i e;cases e;exact absurd rfl hc
   .rfl
theorem qV:∀(ws:List Bytes),(∀w∈ws,oR w)->ws.mapM quotedText=(ws.mapM readText).map fun l=>l.map fun t=>t.length::t
 |[],_=>rfl
 |w::r,h=>by
  rw[a7,a7,qV r fun x hx=>h x (J0 _ hx),<-vT (h w J8)];cases readText w with
  |none=>rfl
  |some t =>
   cases r.mapM readText with
   |none=>rfl
   |some l=>rfl
theorem iI(m:Nat):(fun w=>whole w m)=upTo m:=by funext p;exact mO p m
theorem iA(ho:f7 o):readName o=nameOf o:=by funext w;exact i8 ho w
theorem wO{l:List Nat}(h:∀x∈l,x<=65535):l.flatMap dW=l.flatMap two:=eG fun x hx=>iu (by have:=h x hx;lia)
theorem AL{l:List Nat}(h:∀x∈l,x<=4294967295):l.flatMap gF=l.flatMap four:=eG fun x hx=>wN (by have:=h x hx;lia)
theorem qH(ho:f7 o)(ws:List Bytes):a9 o (0,1,0) ws=(match ws with|[a]=>(nameOf o a).map fun n=>(⟨[],[n],[]⟩:rM)|_=>none):=by
 unfold a9;rw[iA ho]
 match ws with
 |[]=>rfl
 |[a] =>
  show(Option.bind _ _)=_;simp only[List.take_zero,List.mapM_nil,List.drop_zero,List.take_succ_cons,List.drop_succ_cons,List.drop_nil,a7,Nat.zero_add];cases nameOf o a<;>rfl
 |a::b::r=>rw[JX (by simp)]
theorem Ae{type:Bytes}(h:kindAt type=none):dataOf o type ws=none:=by
 have n:=wy h;unfold dataOf;dsimp only;rw[JU (show ¬type=ascii "A" from n .A),JU (show ¬type=ascii "AAAA" from n .AAAA),JU (show ¬(type=ascii "NS"\/type=ascii "CNAME"\/type=ascii "PTR") by rintro(q|q|q);exact n .NS q;exact n .CNAME q;exact n .PTR q),
  JU (show ¬type=ascii "MX" from n .MX),JU (show ¬type=ascii "SRV" from n .SRV),JU (show ¬type=ascii "TXT" from n .TXT),JU (show ¬type=ascii "SOA" from n .SOA)]
theorem DX(ho:f7 o){k:Kd}(hw:∀w∈ws,oR w):dataOf o k.sign ws=(fV o k ws).map fun s=>(k.num,piecesOf k s):=by
 cases k with
 |A =>
  unfold dataOf;dsimp only;rw[JX (show Kd.A.sign=ascii "A" from rfl)]
  match ws with
  |[]=>rfl
  |[a]=>show Option.map _ (address4 a)=Option.map _ (Option.map _ (gk a));rw[ud,Option.map_map];rfl
  |a::b::r=>rfl
 |AAAA =>
  unfold dataOf;dsimp only;rw[JU (by decide),JX (show Kd.AAAA.sign=ascii "AAAA" from rfl)]
  match ws with
  |[]=>rfl
  |[a]=>show Option.map _ (address6 a)=Option.map _ (Option.map _ (iM a));rw[vV,Option.map_map];rfl
  |a::b::r=>rfl
 |NS =>
  unfold dataOf;dsimp only;rw[JU (by decide),JU (by decide),JX (by decide)];show _=Option.map _ (a9 o (0,1,0) ws);rw[qH ho]
  match ws with
  |[]=>rfl
  |[a]=>show Option.map _ (Option.map _ _)=Option.map _ (Option.map _ _);rw[Option.map_map,Option.map_map];cases nameOf o a<;>rfl
  |a::b::r=>rfl
 |CNAME =>
  unfold dataOf;dsimp only;rw[JU (by decide),JU (by decide),JX (by decide)];show _=Option.map _ (a9 o (0,1,0) ws);rw[qH ho]
  match ws with
  |[]=>rfl
  |[a]=>show Option.map _ (Option.map _ _)=Option.map _ (Option.map _ _);rw[Option.map_map,Option.map_map];cases nameOf o a<;>rfl
  |a::b::r=>rfl
 |PTR =>
  unfold dataOf;dsimp only;rw[JU (by decide),JU (by decide),JX (by decide)];show _=Option.map _ (a9 o (0,1,0) ws);rw[qH ho]
  match ws with
  |[]=>rfl
  |[a]=>show Option.map _ (Option.map _ _)=Option.map _ (Option.map _ _);rw[Option.map_map,Option.map_map];cases nameOf o a<;>rfl
  |a::b::r=>rfl
 |MX =>
  unfold dataOf;dsimp only;rw[JU (by decide),JU (by decide),JU (by decide),JX (show Kd.MX.sign=ascii "MX" from rfl)];show _=Option.map _ (a9 o (1,1,0) ws);unfold a9;rw[iA ho,iI,iI]
  match ws with
  |[]=>rfl
  |[a]=>rfl
  |[a,b] =>
   show(upTo 65535 a).bind _=_;simp only[List.take_zero,List.mapM_nil,List.drop_zero,List.take_succ_cons,List.drop_succ_cons,List.drop_nil,a7];cases e:upTo 65535 a with
   |none=>rfl
   |some n =>
    have:=lC e;cases nameOf o b with
    |none=>rfl
    |some m=>show some _=some _;unfold piecesOf;dsimp only;rw[wO (l:=[n]) (by intro x hx;have e:=List.mem_singleton.mp hx;lia)];rfl
  |a::b::c::r=>show none=Option.map _ (if _ then _ else _);rw[JX (by simp)];rfl
 |SRV =>
  unfold dataOf;dsimp only;rw[JU (by decide),JU (by decide),JU (by decide),JU (by decide),JX (show Kd.SRV.sign=ascii "SRV" from rfl)];show _=Option.map _ (a9 o (3,1,0) ws);unfold a9;rw[iA ho,iI,iI]
  match ws with
  |[]=>rfl
  |[a]=>rfl
  |[a,b]=>rfl
  |[a,b,c]=>rfl
  |[a,b,c,d] =>
   show(upTo 65535 a).bind _=_;simp only[List.take_zero,List.mapM_nil,List.drop_zero,List.take_succ_cons,List.drop_succ_cons,List.drop_nil,a7];cases e:upTo 65535 a with
   |none=>rfl
   |some n =>
    have h1:=lC e;cases e2:upTo 65535 b with
    |none=>rfl
    |some m =>
     have h2:=lC e2;cases e3:upTo 65535 c with
     |none=>rfl
     |some p =>
      have h3:=lC e3;cases nameOf o d with
      |none=>rfl
      |some t =>
       show some _=some _;unfold piecesOf;dsimp only;rw[wO (l:=[n,m,p]) (by intro x hx;simp at hx;lia)];rfl
  |a::b::c::d::e::r=>show none=Option.map _ (if _ then _ else _);rw[JX (by simp)];rfl
 |TXT =>
  unfold dataOf;dsimp only;rw[JU (by decide),JU (by decide),JU (by decide),JU (by decide),JU (by decide),JX (show Kd.TXT.sign=ascii "TXT" from rfl)];show _=Option.map _ (Option.map _ (gH ws));unfold gH;by_cases he:ws=[]
  .rw[JX he,JX he];rfl
  .rw[JU he,JU he,qV ws hw];cases ws.mapM readText with
   |none=>rfl
   |some l=>show some _=some _;unfold piecesOf;dsimp only;rw[List.flatMap_def];rfl
 |SOA =>
  unfold dataOf;dsimp only;rw[JU (by decide),JU (by decide),JU (by decide),JU (by decide),JU (by decide),JU (by decide),JX (show Kd.SOA.sign=ascii "SOA" from rfl)];show _=Option.map _ (a9 o (0,2,5) ws);unfold a9;rw[iA ho,iI,iI]
  match ws with
  |[]=>rfl
  |[a]=>rfl
  |[a,b]=>rfl
  |[a,b,c]=>rfl
  |[a,b,c,d]=>rfl
  |[a,b,c,d,e]=>rfl
  |[a,b,c,d,e,f]=>rfl
  |[m,r,a,b,c,d,e] =>
   rw[JU (by simp)];show((nameOf o m).map _).bind _=Option.map _ (Option.bind (some []) fun f=>Option.bind (List.mapM (nameOf o) [m,r]) fun ns=>Option.map _ (List.mapM (upTo 4294967295) [a,b,c,d,e]));rw[a7 (nameOf o) m,a7 (nameOf o) r,List.mapM_nil];cases nameOf o m with
   |none=>rfl
   |some n1 =>
    cases nameOf o r with
    |none=>rfl
    |some n2 =>
     show Option.map _ (List.mapM (upTo (2^32-1)) [a,b,c,d,e])=Option.map _ (Option.map _ (List.mapM (upTo 4294967295) [a,b,c,d,e]));have e32:(2^32-1:Nat)=4294967295:=by decide
     rw[e32];cases q:List.mapM (upTo 4294967295) [a,b,c,d,e]with
     |none=>rfl
     |some l =>
      show some _=some _;unfold piecesOf;dsimp only;rw[AL (l:=l) (fun x hx=>by
       obtain⟨p,_,hp⟩:=kT _ _ _ q x hx;exact lC hp)]
      rfl
  |a::b::c::d::e::f::g::h::r=>show none=Option.map _ (if _ then _ else _);rw[JX (by simp)];rfl
structure PR where
 name:Name
 kind:Kd
 time:Nat
 said:rM
 deriving DecidableEq
variable{p:PR}{xs:List PR}
noncomputable def PR.toRec(p:PR):Record:=⟨p.name,p.time,p.kind.num,piecesOf p.kind p.said⟩
noncomputable def Wf:Kd->rM->Prop
 |.A,s=>s.names=[]/\s.back=[]
 |.AAAA,s=>s.names=[]/\s.back=[]
 |.TXT,s=>s.names=[]/\s.back=[]
 |.NS,s=>s.front=[]/\s.back=[]/\s.names.length=1
 |.CNAME,s=>s.front=[]/\s.back=[]/\s.names.length=1
 |.PTR,s=>s.front=[]/\s.back=[]/\s.names.length=1
 |.MX,s=>s.back=[]/\s.names.length=1
 |.SRV,s=>s.back=[]/\s.names.length=1
 |.SOA,s=>s.front=[]/\s.names.length=2
theorem gm{y:Nat×Nat×Nat}(h:a9 o y ws=some s):(y.1=0->s.front=[])/\s.names.length=y.2.1/\(y.2.2=0->s.back=[]):=by
 unfold a9 at h;split at h
 .cases h
 .rename_i q;obtain⟨f,hf,h⟩:=Kb.mp h;obtain⟨ns,hns,h⟩:=Kb.mp h;obtain⟨b,hb,rfl⟩:=Kh.mp h;have e1:=bB _ _ _ hf;have e2:=bB _ _ _ hns;have e3:=bB _ _ _ hb;rw[Kf]at e1;rw[Kf,J4]at e2;rw[J4]at e3;refine⟨fun z=>?_,by show ns.length=_;lia,fun z=>?_⟩
  .have:f=[]:=List.eq_nil_of_length_eq_zero (by lia);subst this;rfl
  .have:b=[]:=List.eq_nil_of_length_eq_zero (by lia);subst this;rfl
theorem vU{k:Kd}(h:fV o k ws=some s):Wf k s:=by
 cases k with
 |A =>
  obtain⟨w,_,h⟩:=Kb.mp (show Option.bind _ _=_ from h);obtain⟨b,_,rfl⟩:=Kh.mp h;exact⟨rfl,rfl⟩
 |AAAA =>
  obtain⟨w,_,h⟩:=Kb.mp (show Option.bind _ _=_ from h);obtain⟨b,_,rfl⟩:=Kh.mp h;exact⟨rfl,rfl⟩
 |TXT =>
  obtain⟨b,_,rfl⟩:=Kh.mp (show Option.map _ _=_ from h);exact⟨rfl,rfl⟩
 |NS=>have q:=gm (show a9 o (0,1,0) ws=_ from h);exact⟨q.1 rfl,q.2.2 rfl,q.2.1⟩
 |CNAME=>have q:=gm (show a9 o (0,1,0) ws=_ from h);exact⟨q.1 rfl,q.2.2 rfl,q.2.1⟩
 |PTR=>have q:=gm (show a9 o (0,1,0) ws=_ from h);exact⟨q.1 rfl,q.2.2 rfl,q.2.1⟩
 |MX=>have q:=gm (show a9 o (1,1,0) ws=_ from h);exact⟨q.2.2 rfl,q.2.1⟩
 |SRV=>have q:=gm (show a9 o (3,1,0) ws=_ from h);exact⟨q.2.2 rfl,q.2.1⟩
 |SOA=>have q:=gm (show a9 o (0,2,5) ws=_ from h);exact⟨q.1 rfl,q.2.1⟩
theorem gO{b:Bool}:∀{l m:List Name},(l.map fun n=>Piece.name n b)=(m.map fun n=>Piece.name n b)->l=m
 |[],[],_=>rfl
 |[],_::_,h=>by simp at h
 |_::_,[],h=>by simp at h
 |x::l,y::m,h=>by
  rw[J5,J5]at h;injection h with h1 h2
  injection h1 with h1
  rw[h1,gO h2]
theorem yd{k:Kd}{a b:rM}(wa:Wf k a)(wb:Wf k b)(h:piecesOf k a=piecesOf k b):a=b:=by
 obtain⟨f,n,r⟩:=a;obtain⟨f',n',r'⟩:=b;cases k<;>simp only[Wf]at wa wb<;>unfold piecesOf at h<;>dsimp only at h wa wb
 case A=>obtain⟨rfl,rfl⟩:=wa;obtain⟨rfl,rfl⟩:=wb;simp at h;rw[h]
 case AAAA=>obtain⟨rfl,rfl⟩:=wa;obtain⟨rfl,rfl⟩:=wb;simp at h;rw[h]
 case TXT=>obtain⟨rfl,rfl⟩:=wa;obtain⟨rfl,rfl⟩:=wb;simp at h;rw[h]
 case NS=>obtain⟨rfl,rfl,_⟩:=wa;obtain⟨rfl,rfl,_⟩:=wb;rw[gO h]
 case CNAME=>obtain⟨rfl,rfl,_⟩:=wa;obtain⟨rfl,rfl,_⟩:=wb;rw[gO h]
 case PTR=>obtain⟨rfl,rfl,_⟩:=wa;obtain⟨rfl,rfl,_⟩:=wb;rw[gO h]
 case MX=>obtain⟨rfl,_⟩:=wa;obtain⟨rfl,_⟩:=wb;injection h with h1 h2;injection h1 with h1;rw[h1,gO h2]
 case SRV=>obtain⟨rfl,_⟩:=wa;obtain⟨rfl,_⟩:=wb;injection h with h1 h2;injection h1 with h1;rw[h1,gO h2]
 case SOA =>
  obtain⟨rfl,l1⟩:=wa;obtain⟨rfl,l2⟩:=wb;obtain⟨h1,h2⟩:=List.append_inj h (by simp[l1,l2]);simp at h2;rw[gO h1,h2]
theorem z6{a b:PR}(wa:Wf a.kind a.said)(wb:Wf b.kind b.said)(h:a.toRec=b.toRec):a=b:=by
 obtain⟨n,k,t,s⟩:=a;obtain⟨n',k',t',s'⟩:=b;unfold PR.toRec at h;dsimp only at h wa wb;injection h with h1 h2 h3 h4
 have:=Kd.num_inj h3;subst this;rw[h1,h2,yd wa wb h4]
noncomputable def cB(o:Name)(ws:List Bytes):Option PR:=match ws with
 |n::t::k::w=>(readName o n).bind fun n=>if under n o=false then none else(whole t 2147483647).bind fun t=>(kindAt k).bind fun k=>(fV o k w).map fun s=>⟨n,k,t,s⟩
 |_=>none
noncomputable def lD(o:Name)(ws:List Bytes):Option Record:=match ws with
 |n::t::type::w=>match nameOf o n,upTo (2^31-1) t,dataOf o type w with
  |some n,some t,some d=>if under n o=false then none else some ⟨n,t,d.1,d.2⟩
  |_,_,_=>none
 |_=>none
theorem rX(ho:f7 o)(hw:∀w∈ws,oR w):(cB o ws).map PR.toRec=lD o ws:=by
 unfold cB lD
 match ws,hw with
 |[],_=>rfl
 |[a],_=>rfl
 |[a,b],_=>rfl
 |n::t::type::w,hw =>
  dsimp only;rw[i8 ho,mO];have e31:(2^31-1:Nat)=2147483647:=by decide
  rw[e31];cases nameOf o n with
  |none=>rfl
  |some n =>
   show Option.map _ (if _ then none else _)=_;cases hk:kindAt type with
   |none =>
    rw[Ae hk];cases upTo 2147483647 t with
    |none=>split<;>rfl
    |some t=>split<;>rfl
   |some k =>
    have:=wx hk;subst this;rw[DX ho (fun x hx=>hw x (J0 _ (J0 _ (J0 _ hx))))];cases upTo 2147483647 t with
    |none=>split<;>rfl
    |some t =>
     cases hs:fV o k w with
     |none =>
      split
      .rfl
      .show Option.map _ (Option.map _ (fV o k w))=none;rw[hs];rfl
     |some s =>
      by_cases hu:under n o=false
      .rw[JX hu];show none=if _ then none else _;rw[JX hu]
      .rw[JU hu];show Option.map _ (Option.map _ (fV o k w))=if _ then none else _
       rw[JU hu,hs];rfl
theorem lZ(h:cB o ws=some p):Wf p.kind p.said/\under p.name o=true/\p.time<=2147483647:=by
 unfold cB at h;split at h
 .obtain⟨n,_,h⟩:=Kb.mp h;split at h
  .cases h
  .rename_i hu;obtain⟨t,ht,h⟩:=Kb.mp h;obtain⟨k,_,h⟩:=Kb.mp h;obtain⟨s,hs,rfl⟩:=Kh.mp h;rw[mO]at ht;exact⟨vU hs,by simpa using hu,lC ht⟩
 .cases h
noncomputable def aI(o:Name):Nat->List Bytes->Except Nat (List PR)
 |_,[]=>.ok []
 |k,b::r=>match wd b with
  |none=>.error k
  |some []=>aI o (k+1) r
  |some (w::ws)=>match cB o (w::ws) with
   |none=>.error k
   |some x=>match aI o (k+1) r with
    |.error e=>.error e
    |.ok xs=>.ok (x::xs)
noncomputable def aF{α:Type}[DecidableEq α](l:List α)(x:α):List α:=if l.contains x=true then l else l++[x]
theorem mq(ho:f7 o):∀(bs:List Bytes) (k:Nat) (l:List Record),records o k bs l=match aI o k bs with
  |.error e=>.error e
  |.ok xs=>.ok ((xs.map PR.toRec).foldl aF l)
 |[],k,l=>rfl
 |b::r,k,l=>by
  rw[records,aI];show(match wd b with|none=>_|some []=>_|some (n::t::type::w)=>_|some _=>_)=_;cases hb:wd b with
  |none=>rfl
  |some ws =>
   match ws,hb with
   |[],hb=>dsimp only;exact mq ho r (k+1) l
   |w::ws,hb =>
    have ok:∀x∈w::ws,oR x:=fun x hx=>(vB _ b _ (JY _) hb x hx).1;have e:=rX ho ok;dsimp only;cases hr:cB o (w::ws) with
    |none =>
     rw[hr]at e;have e:none=lD o (w::ws):=e
     match ws,e with
     |[],_=>rfl
     |[a],_=>rfl
     |t::type::w',e =>
      dsimp only;unfold lD at e;dsimp only at e;split
      .rename_i n' t' d' h1 h2 h3;rw[h1,h2,h3]at e;dsimp only at e;by_cases hu:under n' o=false
       .rw[JX hu]
       .rw[JU hu]at e;cases e
      .rfl
    |some x =>
     rw[hr]at e;have e:some x.toRec=lD o (w::ws):=e
     match ws,e with
     |[],e=>cases e
     |[a],e=>cases e
     |t::type::w',e =>
      dsimp only;unfold lD at e;dsimp only at e;split
      .rename_i n' t' d' h1 h2 h3;rw[h1,h2,h3]at e;dsimp only at e;by_cases hu:under n' o=false
       .rw[JX hu]at e;cases e
       .rw[JU hu]at e ⊢;have e:=Ku e;rw[mq ho r (k+1) _];cases aI o (k+1) r with
        |error _=>rfl
        |ok xs =>
         dsimp only;rw[J5,Li,e];rfl
      .rename_i hno;cases h1:nameOf o w with
       |none=>rw[h1]at e;cases e
       |some n1 =>
        cases h2:upTo (2^31-1) t with
        |none=>rw[h1,h2]at e;cases e
        |some t1 =>
         cases h3:dataOf o type w' with
         |none=>rw[h1,h2,h3]at e;cases e
         |some d1=>exact absurd h3 (hno n1 t1 d1 h1 h2)
theorem ny:∀(t c:Bytes),lines t c=if (cutAt 10 t c).getLast?=some [] then(cutAt 10 t c).dropLast else cutAt 10 t c
 |[],c=>by
  cases c with
  |nil=>rfl
  |cons x r=>simp[lines,cutAt]
 |x::r,c=>by
  unfold cutAt;by_cases h:x=10
  .subst h;rw[JX rfl];have e:lines (10::r) c=c::lines r []:=by cases c<;>rfl
   rw[e,ny r []];have hne:=jI 10 r [];rw[List.getLast?_cons_of_ne_nil hne];split
   .rw[List.dropLast_cons_of_ne_nil hne]
   .rfl
  .rw[JU h];have e:lines (x::r) c=lines r (c++[x]):=by
    rw[lines]
    .intro z;exact h z
   rw[e,ny r]
noncomputable def badLine(b:Bytes):Bool:=decide (MOSTLINE<b.length)||b.any fun c=>decide (c<32\/126<c)
theorem nF{α:Type}(p:α->Bool)(x:α)(hx:p x=false):∀l:List α,(l++[x]).findIdx? p=l.findIdx? p
 |[]=>by simp[List.findIdx?_cons,hx]
 |y::l=>by
  rw[Lf,List.findIdx?_cons,List.findIdx?_cons,nF p x hx l]
theorem sh(t:Bytes):(lines t []).findIdx? badLine=(cutAt 10 t []).findIdx? badLine:=by
 rw[ny];split
 .rename_i h;have e:cutAt 10 t []=(cutAt 10 t []).dropLast++[[]]:=by
   obtain⟨l,hl⟩:=List.getLast?_eq_some_iff.mp h;rw[hl,List.dropLast_concat]
  conv=>rhs;rw[e]
  rw[nF _ _ (by decide)]
 .rfl
theorem ku(o:Name):∀(r:List Bytes) (k:Nat),aI o k (r++[[]])=aI o k r
 |[],k=>rfl
 |b::r,k=>by
  rw[Lf,aI,aI,ku o r (k+1)]
noncomputable def gI(n:Bytes):Option Name:=if n.getLast?≠some 46 then none else(readName [] n).bind fun o=>if o=[]\/o.head?=some [42] then none else some o
noncomputable def fW(first:Bytes):Option Name:=match wd first with
 |some [w,n]=>if w=ascii "$ORIGIN" then gI n else none
 |_=>none
noncomputable def fk(t:Bytes):Except Nat (Name×List PR) :=
 match (cutAt 10 t []).findIdx? badLine with
 |some k=>.error (k+1)
 |none=>match cutAt 10 t []with
  |[]=>.error 1
  |first::r=>match fW first with
   |none=>.error 1
   |some o=>match aI o 2 r with
    |.error k=>.error k
    |.ok xs=>.ok (o,xs)
theorem rY{n:Bytes}(h:gI n=some o):f7 o/\o≠[]/\vg o:=by
 unfold gI at h;split at h
 .cases h
 .obtain⟨m,hm,h⟩:=Kb.mp h;rw[i8 mZ]at hm;split at h
  .cases h
  .rename_i q;cases h;exact⟨Ao (sX hm) fun z=>q (.inr z),fun z=>q (.inl z),sX hm⟩
theorem kC{f:Bytes}(h:fW f=some o):f7 o/\o≠[]/\vg o:=by
 unfold fW at h;split at h
 .split at h
  .exact rY h
  .cases h
 .cases h
theorem v8(first:Bytes):(match words (first.length+1) first with
   |some [w,n]=>match (if w=ascii "$ORIGIN"/\n.getLast?=some 46 then nameOf [] n else none) with
    |some origin=>if origin=[]\/origin.head?=some [42] then none else some origin
    |none=>none
   |_=>none)=fW first:=by
 unfold fW;show(match wd first with|some [w,n]=>_|_=>none)=_;split
 .rename_i w n h;unfold gI;rw[i8 mZ];by_cases hw:w=ascii "$ORIGIN"
  .rw[JX hw];by_cases hl:n.getLast?=some 46
   .rw[JX ⟨hw,hl⟩,JU (by simpa using hl)];cases nameOf [] n with
    |none=>rfl
    |some o=>rfl
   .rw[JU (fun z=>hl z.2),JX hl]
  .rw[JU (fun z=>hw z.1),JU hw]
 .rfl
theorem zZ(t:Bytes):zoneOf t=match fk t with
  |.error k=>.error k
  |.ok x=>.ok (x.1,(x.2.map PR.toRec).foldl aF []):=by
 unfold zoneOf fk;dsimp only;show(match (lines t []).findIdx? badLine with|some k=>_|none=>_)=_;rw[sh];cases hb:(cutAt 10 t []).findIdx? badLine with
 |some k=>rfl
 |none =>
  dsimp only;have key:∀(first:Bytes) (r r':List Bytes),(∀o k,aI o k r'=aI o k r) ->
    (match words (first.length+1) first with
     |some [w,n]=>match (if w=ascii "$ORIGIN"/\n.getLast?=some 46 then nameOf [] n else none) with
      |some origin=>if origin=[]\/origin.head?=some [42] then(Except.error 1:Except Nat (Name×List Record)) else match records origin 2 r []with
       |.error k=>.error k
       |.ok rs=>.ok (origin,rs)
      |none=>.error 1
     |_=>.error 1)=(match (match fW first with
      |none=>(Except.error 1:Except Nat (Name×List PR))
      |some o=>match aI o 2 r' with
       |.error k=>.error k
       |.ok xs=>.ok (o,xs)) with
     |.error k=>.error k
     |.ok x=>.ok (x.1,(x.2.map PR.toRec).foldl aF [])):=by
   intro first r r' hr
   have e:=v8 first
   cases ho:fW first with
   |none =>
    rw[ho]at e;split
    .rename_i w n h;rw[h]at e;dsimp only at e;split
     .rename_i o h2;rw[h2]at e;dsimp only at e;split
      .rfl
      .rename_i q;rw[JU q]at e;cases e
     .rfl
    .rfl
   |some o =>
    have ok:=kC ho;rw[ho]at e;split
    .rename_i w n h;rw[h]at e;dsimp only at e;split
     .rename_i o' h2;rw[h2]at e;dsimp only at e;split
      .rename_i q;rw[JX q]at e;cases e
      .rename_i q;rw[JU q]at e;cases e;rw[mq ok.1,<-hr o 2];dsimp only;cases aI o 2 r' with
       |error k=>rfl
       |ok xs=>rfl
     .rename_i h2;rw[h2]at e;cases e
    .rename_i h;exfalso;split at e
     .rename_i w n q;exact h w n q
     .cases e
  have hl:=ny t [];cases hc:cutAt 10 t []with
  |nil=>exact absurd hc (jI _ _ _)
  |cons first r =>
   rw[hc]at hl;dsimp only;by_cases hlast:(first::r).getLast?=some []
   .rw[JX hlast]at hl;cases r with
    |nil =>
     have:first=[]:=by simpa using hlast
     subst this;rw[hl];rfl
    |cons b r =>
     rw[List.dropLast_cons_of_ne_nil (by simp)]at hl;rw[hl];dsimp only;refine key first _ _ fun o k=>?_
     rw[List.getLast?_cons_of_ne_nil (by simp)]at hlast;obtain⟨l,hl2⟩:=List.getLast?_eq_some_iff.mp hlast;rw[hl2,List.dropLast_concat,ku]
   .rw[JU hlast]at hl;rw[hl];dsimp only;exact key first _ _ fun _ _=>rfl
theorem jR:∀(bs:List Bytes) (k:Nat) (xs:List PR),aI o k bs = .ok xs->xs.length<=bs.length/\∀p∈xs,Wf p.kind p.said/\under p.name o=true/\p.time<=2147483647/\∃b∈bs,∃ws,wd b=some ws/\cB o ws=some p
 |[],k,xs,h=>by cases h;exact⟨JY _,fun _ z=>nomatch z⟩
 |b::r,k,xs,h=>by
  rw[aI]at h;cases hb:wd b with
  |none=>rw[hb]at h;cases h
  |some ws =>
   rw[hb]at h
   match ws,hb,h with
   |[],hb,h =>
    dsimp only at h;obtain⟨h1,h2⟩:=jR r (k+1) xs h;refine⟨by rw[JS];lia,fun p hp=>?_⟩;obtain⟨a1,a2,a3,b',hb',q⟩:=h2 p hp;exact⟨a1,a2,a3,b',J0 _ hb',q⟩
   |w::ws,hb,h =>
    dsimp only at h;cases hr:cB o (w::ws) with
    |none=>rw[hr]at h;cases h
    |some x =>
     rw[hr]at h;dsimp only at h;cases hl:aI o (k+1) r with
     |error e=>rw[hl]at h;cases h
     |ok ys =>
      rw[hl]at h;cases h;obtain⟨h1,h2⟩:=jR r (k+1) ys hl;refine⟨by rw[JS,JS];lia,fun p hp=>?_⟩;rcases Kg.mp hp with rfl|hp
      .obtain⟨a1,a2,a3⟩:=lZ hr;exact⟨a1,a2,a3,b,J8,_,hb,hr⟩
      .obtain⟨a1,a2,a3,b',hb',q⟩:=h2 p hp;exact⟨a1,a2,a3,b',J0 _ hb',q⟩
theorem pz{α:Type}[DecidableEq α]{l:List α}{x y:α}:y∈aF l x↔y∈l\/y=x:=by
 unfold aF;split
 .rename_i h;have hx:x∈l:=by simpa using h
  exact⟨.inl,fun h=>h.elim id fun e=>e▸hx⟩
 .rw[Kj,List.mem_singleton]
theorem m6{α:Type}[DecidableEq α]:∀(xs l:List α) (y:α),y∈xs.foldl aF l↔y∈l\/y∈xs
 |[],l,y=>by simp
 |x::xs,l,y=>by rw[Li,m6 xs,pz,Kg,or_assoc]
theorem wc{α β:Type}[DecidableEq α][DecidableEq β](f:α->β)(P:α->Prop)(hf:∀a b,P a->P b->f a=f b->a=b):∀(xs l:List α),(∀x∈xs,P x)->(∀x∈l,P x) ->
  (xs.map f).foldl aF (l.map f)=(xs.foldl aF l).map f
 |[],l,_,_=>rfl
 |x::xs,l,hx,hl=>by
  rw[J5,Li,Li];have e:aF (l.map f) (f x)=(aF l x).map f:=by
   unfold aF;by_cases h:x∈l
   .rw[JX (by simpa using⟨x,h,rfl⟩),JX (by simpa using h)]
   .rw[JU (by
     intro z;have z:f x∈l.map f:=by simpa using z
     obtain⟨y,hy,e⟩:=KZ.mp z;exact h (hf y x (hl y hy) (hx x J8) e▸hy)),JU (by simpa using h),List.map_append]
    rfl
  rw[e];exact wc f P hf xs _ (fun y hy=>hx y (J0 _ hy)) fun y hy=>by
   rcases pz.mp hy with h|h
   .exact hl y h
   .subst h;exact hx _ J8
noncomputable def own(xs:List PR)(n:Name):List PR:=xs.filter fun p=>decide (p.name=n)
noncomputable def fF(xs:List PR)(n:Name)(k:Kd):List PR:=(own xs n).filter fun p=>decide (p.kind=k)
noncomputable abbrev zn(o:Name)(xs:List PR):Zone:=⟨o,xs.map PR.toRec⟩
theorem zT(o:Name)(xs:List PR)(n:Name):(zn o xs).at_ n=(own xs n).map PR.toRec:=by
 unfold Zone.at_ own zn;rw[List.filter_map];congr 1;refine List.filter_congr fun p _=>?_;show(p.name==n)=decide (p.name=n);by_cases h:p.name=n
 .rw[h,KO rfl];exact beq_self_eq_true n
 .rw[Kl h];exact KP.mpr h
theorem uB(a b:Kd):(a.num==b.num)=decide (a=b):=by cases a<;>cases b<;>rfl
theorem of_eq(o:Name)(xs:List PR)(n:Name)(k:Kd):(zn o xs).of n k.num=(fF xs n k).map PR.toRec:=by
 unfold Zone.of fF;rw[zT,List.filter_map];congr 1;refine List.filter_congr fun p _=>?_;exact uB p.kind k
theorem A8(o:Name)(xs:List PR)(n:Name):(zn o xs).there n=xs.any fun p=>under p.name n:=by
 unfold Zone.there zn;rw[List.any_map];rfl
noncomputable def kr(rs:List PR):Prop:=(∀r∈rs,r.kind = .CNAME->rs.length<=1)/\∀r∈rs,∀s∈rs,s.kind=r.kind->s.time=r.time
structure gU (o:Name) (xs:List PR):Prop where
 few:xs.length<=2048
 soa:((xs.filter fun p=>decide (p.kind = .SOA)).map PR.name)=[o]
 ns:fF xs o .NS≠[]
 tog:∀p∈xs,kr (own xs p.name)
theorem gr:p∈own xs n↔p∈xs/\p.name=n:=by
 unfold own;rw[Lb];simp
theorem iG{k:Kd}:p∈fF xs n k↔p∈xs/\p.name=n/\p.kind=k:=by
 unfold fF;rw[Lb,gr];simp[and_assoc]
theorem Ef(xs:List PR)(o:Name):fF xs o .SOA=(xs.filter fun p=>decide (p.kind = .SOA)).filter fun p=>decide (p.name=o):=by
 unfold fF own;rw[List.filter_filter,List.filter_filter];refine List.filter_congr fun p _=>?_;exact Bool.and_comm _ _
theorem tZ(xs:List PR)(o:Name):((xs.filter fun p=>decide (p.kind = .SOA)).map PR.name)=[o]↔(fF xs o .SOA).length=1/\∀p∈xs,p.kind = .SOA->p.name=o:=by
 rw[Ef];have hm:∀p,p∈(xs.filter fun p=>decide (p.kind = .SOA))↔p∈xs/\p.kind = .SOA:=fun p=>by rw[Lb];simp
 generalize hl:(xs.filter fun p=>decide (p.kind = .SOA))=l at hm;constructor
 .intro h
  match l,h with
  |[p],h =>
   have hp:p.name=o:=by simpa using h
   refine⟨by simp[hp],fun q hq hk=>?_⟩;have:q∈[p]:=(hm q).mpr ⟨hq,hk⟩;have:q=p:=by simpa using this
   rw[this,hp]
 .rintro⟨h1,h2⟩;have all:∀p∈l,p.name=o:=fun p hp=>h2 p ((hm p).mp hp).1 ((hm p).mp hp).2;have e:(l.filter fun p=>decide (p.name=o))=l:=List.filter_eq_self.mpr fun p hp=>by simpa using all p hp
  rw[e]at h1
  match l,h1,all with
  |[p],_,all=>simp[all p]
theorem wH(o:Name)(xs:List PR):(zn o xs).good=true↔gU o xs:=by
 unfold Zone.good;rw[Kt,Kt,Kt];have e1:(zn o xs).origin=o:=rfl;have e2:(zn o xs).records=xs.map PR.toRec:=rfl;have s1:(zn o xs).of o SOA=(fF xs o .SOA).map PR.toRec:=of_eq o xs o .SOA;have s2:(zn o xs).of o NS=(fF xs o .NS).map PR.toRec:=of_eq o xs o .NS;rw[e1,e2,s1,s2,Kk,Kk,List.all_map,Ln];have body:(∀p∈xs,(((p.toRec.type != SOA||p.toRec.name==o)&&(((zn o xs).of p.toRec.name CNAME).isEmpty||((zn o xs).at_ p.toRec.name).length==1))&&((zn o xs).of p.toRec.name p.toRec.type).all fun s=>s.ttl==p.toRec.ttl)=true) ↔
   ((∀p∈xs,p.kind = .SOA->p.name=o)/\∀p∈xs,kr (own xs p.name)):=by
  have each:∀p:PR,(((p.toRec.type != SOA||p.toRec.name==o)&&(((zn o xs).of p.toRec.name CNAME).isEmpty||((zn o xs).at_ p.toRec.name).length==1))&&((zn o xs).of p.toRec.name p.toRec.type).all fun s=>s.ttl==p.toRec.ttl)=true ↔
    ((p.kind = .SOA->p.name=o)/\(fF xs p.name .CNAME=[]\/(own xs p.name).length=1)/\∀s∈fF xs p.name p.kind,s.time=p.time):=by
   intro p;have c1:(zn o xs).of p.toRec.name CNAME=(fF xs p.name .CNAME).map PR.toRec:=of_eq o xs p.name .CNAME;have c2:(zn o xs).of p.toRec.name p.toRec.type=(fF xs p.name p.kind).map PR.toRec:=of_eq o xs p.name p.kind;have c3:(zn o xs).at_ p.toRec.name=(own xs p.name).map PR.toRec:=zT o xs p.name;rw[c1,c2,c3,Kt,Kt,Lm,Lm,Kk,List.all_map,Ln,and_assoc];have t1:((p.toRec.type != SOA)=true\/(p.toRec.name==o)=true)↔(p.kind = .SOA->p.name=o):=by
    have:(p.toRec.type != SOA)=!decide (p.kind = .SOA):=by
     show(!(p.kind.num==Kd.SOA.num))=_;rw[uB]
    rw[this];by_cases h:p.kind = .SOA
    .simp[h];rfl
    .simp[h]
   have t2:(((fF xs p.name .CNAME).map PR.toRec).isEmpty=true\/((own xs p.name).length==1)=true)↔(fF xs p.name .CNAME=[]\/(own xs p.name).length=1):=by
    simp
   have t3:(∀s∈fF xs p.name p.kind,((fun s:Record=>s.ttl==p.toRec.ttl)∘PR.toRec) s=true)↔∀s∈fF xs p.name p.kind,s.time=p.time:=by
    constructor
    .intro h s hs;have:=h s hs;exact eq_of_beq (show(s.time==p.time)=true from this)
    .intro h s hs;show(s.time==p.time)=true;rw[h s hs];exact beq_self_eq_true _
   rw[t1,t2,t3]
  constructor
  .intro h;refine⟨fun p hp=>((each p).mp (h p hp)).1,fun p hp=>⟨fun r hr hk=>?_,fun r hr s hs e=>?_⟩⟩
   .obtain⟨_,q,_⟩:=(each p).mp (h p hp);rcases q with q|q
    .have:=gr.mp hr;have:r∈fF xs p.name .CNAME:=iG.mpr ⟨this.1,this.2,hk⟩;rw[q]at this;cases this
    .lia
   .obtain⟨hr1,hr2⟩:=gr.mp hr;obtain⟨hs1,hs2⟩:=gr.mp hs;obtain⟨_,_,q⟩:=(each r).mp (h r hr1);exact q s (iG.mpr ⟨hs1,hs2.trans hr2.symm,e⟩)
  .rintro⟨h1,h2⟩ p hp;refine(each p).mpr ⟨h1 p hp,?_,fun s hs=>?_⟩
   .by_cases hc:fF xs p.name .CNAME=[]
    .exact .inl hc
    .right;cases hq:fF xs p.name .CNAME with
     |nil=>exact absurd hq hc
     |cons r _ =>
      have hr:r∈fF xs p.name .CNAME:=by rw[hq];exact J8
      obtain⟨a,b,c⟩:=iG.mp hr;have l1:=(h2 p hp).1 r (gr.mpr ⟨a,b⟩) c;have l2:0<(own xs p.name).length:=List.length_pos_of_mem (gr.mpr ⟨hp,rfl⟩);lia
   .obtain⟨a,b,c⟩:=iG.mp hs;exact(h2 p hp).2 p (gr.mpr ⟨hp,rfl⟩) s (gr.mpr ⟨a,b⟩) c
 have m2048:MOSTRECORDS=2048:=rfl;have body':=body;constructor
 .rintro⟨a,b,c,d⟩;obtain⟨d1,d2⟩:=body.mp d;exact⟨of_decide_eq_true a,(tZ xs o).mpr ⟨by simpa using b,d1⟩,by simpa using c,d2⟩
 .rintro⟨a,b,c,d⟩;obtain⟨b1,b2⟩:=(tZ xs o).mp b;exact⟨KO a,by simpa using b1,by simpa using c,body.mpr ⟨b2,d⟩⟩
theorem dR(a b:Name):under a b=true↔∃k,k<=a.length/\a.drop k=b:=by
 unfold under;rw[Kt];constructor
 .rintro⟨h1,h2⟩;exact⟨a.length-b.length,Nat.sub_le _ _,by simpa using h2⟩
 .rintro⟨k,hk,rfl⟩;rw[J4];refine⟨KO (Nat.sub_le _ _),?_⟩;rw[show a.length-(a.length-k)=k by lia];simp
theorem mn(a:Name):under a a=true:=(dR a a).mpr ⟨0,Kq _,rfl⟩
theorem xJ(a:Name)(k:Nat)(h:k<=a.length):under a (a.drop k)=true:=(dR _ _).mpr ⟨k,h,rfl⟩
theorem oW{a b c:Name}(h1:under a b=true)(h2:under b c=true):under a c=true:=by
 obtain⟨k,hk,rfl⟩:=(dR a b).mp h1;obtain⟨j,hj,rfl⟩:=(dR _ c).mp h2;rw[J4]at hj;exact(dR _ _).mpr ⟨k+j,by lia,by rw[List.drop_drop]⟩
theorem iJ{a b:Name}(h:under a b=true):b.length<=a.length:=by
 obtain⟨k,hk,rfl⟩:=(dR a b).mp h;rw[J4];lia
theorem iT{a:Name}(h:under a o=true)(hk:k<=a.length-o.length):under (a.drop k) o=true:=by
 obtain⟨j,hj,rfl⟩:=(dR a o).mp h;rw[J4]at hk;refine(dR _ _).mpr ⟨j-k,by rw[J4];omega,?_⟩;rw[List.drop_drop];congr 1;omega
theorem nG{a:Name}(h:under a o=true):a.drop (a.length-o.length)=o:=by
 obtain⟨j,hj,rfl⟩:=(dR a o).mp h;rw[J4];congr 1;lia
theorem CU(o:Name)(xs:List PR)(n:Name):((zn o xs).down n).reverse=(List.range (n.length-o.length)).map fun i=>n.drop i:=by
 unfold Zone.down;rw[<-List.map_reverse,List.reverse_reverse]
theorem yz{α:Type}(f:Nat->α)(p:α->Bool):∀(m i:Nat),i<m->p (f i)=true->(∀j,j<i->p (f j)=false)->((List.range m).map f).find? p=some (f i):=by
 intro m i hi hp hj;rw[List.find?_map];have:(List.range m).find? (p∘f)=some i:=by
  rw[List.find?_range_eq_some];exact⟨hp,by simpa using hi,fun j h=>by simp[hj j h]⟩
 rw[this];rfl
theorem pL{α:Type}(f:Nat->α)(p:α->Bool)(m:Nat)(hj:∀j,j<m->p (f j)=false):((List.range m).map f).find? p=none:=by
 rw[List.find?_eq_none];intro x hx;obtain⟨j,h1,rfl⟩:=KZ.mp hx;rw[hj j (by simpa using h1)];decide
theorem Dh{i:Nat}(hu:under n o=true)(h0:(zn o xs).there n=false)(h1:1<=i)(hi:i<=n.length-o.length)(hj:∀j,1<=j->j<i->(zn o xs).there (n.drop j)=false)(hp:i<n.length-o.length->(zn o xs).there (n.drop i)=true):(zn o xs).above n=n.drop i:=by
 unfold Zone.above;rw[CU];have hj':∀j,j<i->(zn o xs).there (n.drop j)=false:=fun j hji=>by
  cases j with
  |zero=>exact h0
  |succ j=>exact hj (j+1) (by lia) hji
 by_cases he:i=n.length-o.length
 .rw[pL (fun i=>n.drop i) _ _ fun j h=>hj' j (by lia),he,nG hu];rfl
 .rw[yz (fun i=>n.drop i) _ _ i (by lia) (hp (by lia)) hj'];rfl
noncomputable def lQ(o:Name)(xs:List PR)(n:Name):Prop:=under n o=true/\(n=o\/∃p∈xs,under p.name n=true)
theorem iK(hs:∃p∈xs,p.name=o)(hu:under n o=true):(zn o xs).there n=true↔lQ o xs n:=by
 rw[A8,List.any_eq_true];constructor
 .rintro⟨p,hp,h⟩;exact⟨hu,.inr ⟨p,hp,h⟩⟩
 .rintro⟨_,rfl|⟨p,hp,h⟩⟩
  .obtain⟨p,hp,e⟩:=hs;exact⟨p,hp,by rw[e];exact mn _⟩
  .exact⟨p,hp,h⟩
theorem gU.has(h:gU o xs):∃p∈xs,p.name=o:=by
 cases e:fF xs o .NS with
 |nil=>exact absurd e h.ns
 |cons p r =>
  have:p∈fF xs o .NS:=by rw[e];exact J8
  obtain⟨a,b,_⟩:=iG.mp this;exact⟨p,a,b⟩
theorem gU.soaOne(h:gU o xs):∃p,fF xs o .SOA=[p]:=by
 have:=((tZ xs o).mp h.soa).1
 match e:fF xs o .SOA,this with
 |[p],_=>exact⟨p,rfl⟩
noncomputable def here(o:Name)(xs:List PR)(n:Name):Option (List PR) :=
 if (zn o xs).there n=true then some (own xs n) else if (zn o xs).there ([42]::(zn o xs).above n)=true then some (own xs ([42]::(zn o xs).above n)) else none
noncomputable abbrev Pair:=Name×PR
noncomputable def ax(q:Pair):Record:=q.2.toRec.named q.1
theorem Am(xs:List PR)(n:Name):(own xs n).map PR.toRec=(own xs n).map fun p=>ax (n,p):=by
 refine List.map_congr_left fun p hp=>?_;obtain⟨_,e⟩:=gr.mp hp;show p.toRec=p.toRec.named n;rw[<-e];rfl
theorem lK(xs:List PR)(n:Name)(k:Kd):(fF xs n k).map PR.toRec=(fF xs n k).map fun p=>ax (n,p):=by
 refine List.map_congr_left fun p hp=>?_;obtain⟨_,e,_⟩:=iG.mp hp;show p.toRec=p.toRec.named n;rw[<-e];rfl
theorem AI(o:Name)(xs:List PR)(n:Name):(if (zn o xs).there n=true then some ((zn o xs).at_ n) else
  let w:=[42]::(zn o xs).above n
  if (zn o xs).there w=true then some (((zn o xs).at_ w).map fun r=>r.named n) else none)=(here o xs n).map fun l=>l.map fun p=>ax (n,p):=by
 unfold here;split
 .rw[zT,Am];rfl
 .dsimp only;split
  .rw[zT,KY];rfl
  .rfl
noncomputable def target(p:PR):Option Name:=p.said.names.head?
theorem sQ(h:Wf p.kind p.said)(n:Name):(p.toRec.named n).target=p.said.names.head?:=by
 obtain⟨pn,k,t,s⟩:=p;obtain⟨f,ns,b⟩:=s;unfold Record.target PR.toRec Record.named piecesOf;cases k<;>simp only[Wf]at h<;>dsimp only at h ⊢ <;> cases ns<;>simp_all [List.findSome?_cons]
noncomputable def fG(asked:Nat):Bool:=asked != 5&&asked != 255
theorem Cg{found:List Record}(h:under n o=false\/n∈seen):
  (zn o xs).look type (k+1) seen n found=⟨if found=[] then 5 else 0,!found.isEmpty,found,[]⟩:=by
 rw[Zone.look,JX];rcases h with h|h
 .exact .inl h
 .exact .inr (by simpa using h)
section
variable{fs:List Pair}(hu:under n o=true)(hn:n∉seen)
include hu hn
theorem Ci{c:Name}(hc:(zn o xs).cut n=some c):(zn o xs).look type (k+1) seen n (fs.map ax)=⟨0,!fs.isEmpty,fs.map ax,((fF xs c .NS).map fun p=>(c,p)).map ax⟩:=by
 rw[Zone.look,JU (by
  rintro(h|h)
  .rw[show(zn o xs).origin=o from rfl,hu]at h;cases h
  .exact hn (by simpa using h))]
 rw[hc];dsimp only;have e:(zn o xs).of c NS=(fF xs c .NS).map PR.toRec:=of_eq o xs c .NS;rw[e,lK,List.isEmpty_map,KY];rfl
theorem Ej(hc:(zn o xs).cut n=none):(zn o xs).look type (k+1) seen n (fs.map ax)=match here o xs n with
  |none=>⟨3,true,fs.map ax,((fF xs o .SOA).map fun p=>(o,p)).map ax⟩
  |some l=>match (if fG type=true then l.find? fun p=>decide (p.kind = .CNAME) else none) with
   |some p=>(match (ax (n,p)).target with
    |some t=>(zn o xs).look type k (n::seen) t ((fs++[(n,p)]).map ax)
    |none=>⟨0,true,(fs++[(n,p)]).map ax,[]⟩)
   |none=>⟨0,true,(fs++(l.filter fun p=>decide (type=p.kind.num\/type=255)).map fun p=>(n,p)).map ax,
     if (l.filter fun p=>decide (type=p.kind.num\/type=255))=[] then((fF xs o .SOA).map fun p=>(o,p)).map ax else []⟩:=by
 have soa:(zn o xs).of (zn o xs).origin SOA=((fF xs o .SOA).map fun p=>(o,p)).map ax:=by
  have e:(zn o xs).of o SOA=(fF xs o .SOA).map PR.toRec:=of_eq o xs o .SOA;rw[show(zn o xs).origin=o from rfl,e,lK,KY];rfl
 rw[Zone.look,JU (by
  rintro(h|h)
  .rw[show(zn o xs).origin=o from rfl,hu]at h;cases h
  .exact hn (by simpa using h))]
 rw[hc];dsimp only;rw[soa];have hs:=AI o xs n;dsimp only at hs;rw[hs];cases here o xs n with
 |none=>rfl
 |some l =>
  dsimp only[Option.map];have e1:(l.map fun p=>ax (n,p)).find? (fun r=>r.type==CNAME&&(type != CNAME&&type != ANY))=(if fG type=true then l.find? fun p=>decide (p.kind = .CNAME) else none).map fun p=>ax (n,p):=by
   rw[List.find?_map];by_cases hf:fG type=true
   .rw[JX hf];congr 2;funext p;show(p.kind.num==Kd.CNAME.num&&(type != CNAME&&type != ANY))=decide (p.kind = .CNAME);rw[uB,show(type != CNAME&&type != ANY)=true from hf,Bool.and_true]
   .rw[JU hf];have hf':(type != CNAME&&type != ANY)=false:=(Bool.not_eq_true _).mp hf;have:l.find? ((fun r=>r.type==CNAME&&(type != CNAME&&type != ANY))∘fun p=>ax (n,p))=none:=by
     rw[List.find?_eq_none];intro p _;show ¬((p.kind.num==CNAME&&(type != CNAME&&type != ANY))=true);rw[hf',Bool.and_false];exact J9
    rw[this,Option.map_none]
  rw[e1];cases (if fG type=true then l.find? fun p=>decide (p.kind = .CNAME) else none) with
  |some p =>
   dsimp only[Option.map];rw[List.map_append];rfl
  |none =>
   dsimp only[Option.map];have e2:(l.map fun p=>ax (n,p)).filter (fun r=>type==ANY||r.type==type)=(l.filter fun p=>decide (type=p.kind.num\/type=255)).map fun p=>ax (n,p):=by
    rw[List.filter_map];congr 1;refine List.filter_congr fun p _=>?_;show(type==255||p.kind.num==type)=_;by_cases a:type=255
    .simp[a]
    .by_cases b:type=p.kind.num
     .simp[b]
     .have:¬p.kind.num=type:=fun z=>b z.symm;simp[a,b,this]
   rw[e2];generalize (l.filter fun p=>decide (type=p.kind.num\/type=255))=q;have e3:(q.map fun p=>ax (n,p))=(q.map fun p=>(n,p)).map ax:=by rw[KY];rfl
   rw[e3,<-List.map_append];cases q with
   |nil=>rfl
   |cons _ _=>rfl
end
noncomputable def nA(k:Kd):Bool:=decide (k = .NS\/k = .MX\/k = .SRV)
noncomputable def ip(ps:List Pair):List Name:=(ps.filter fun q=>nA q.2.kind).filterMap fun q=>target q.2
noncomputable def more(xs:List PR)(names:List Name):List Pair:=names.flatMap fun n=>(fF xs n .A++fF xs n .AAAA).map fun p=>(n,p)
theorem xq(names l:List Name):names.foldl (fun(l:List Name) n=>if l.contains n=true then l else l++[n]) l=names.foldl aF l:=by
 congr 1;funext l n;unfold aF;by_cases h:n∈l
 .rw[JX (by simpa using h),JX (by simpa using h)]
 .rw[JU (by simpa using h),JU (by simpa using h)]
theorem jF{α β:Type}{f g:α->Option β}:∀{l:List α},(∀x∈l,f x=g x)->l.filterMap f=l.filterMap g
 |[],_=>rfl
 |x::r,h=>by
  rw[KC,KC,h x J8,jF fun y hy=>h y (J0 _ hy)]
theorem wQ{w:Bool}{an au:List Pair}(h:∀q∈an++au,Wf q.2.kind q.2.said):(zn o xs).extra ⟨c,w,an.map ax,au.map ax⟩=(more xs ((ip (an++au)).foldl aF [])).map ax:=by
 unfold Zone.extra;dsimp only;rw[<-List.map_append];have e:(((an++au).map ax).filter fun x=>x.type==NS||(x.type==MX||x.type==SRV)).filterMap Record.target=ip (an++au):=by
  unfold ip;rw[List.filter_map,List.filterMap_map];have f:(an++au).filter ((fun x=>x.type==NS||(x.type==MX||x.type==SRV))∘ax)=(an++au).filter fun q=>nA q.2.kind:=by
   refine List.filter_congr fun q _=>?_;show(q.2.kind.num==NS||(q.2.kind.num==MX||q.2.kind.num==SRV))=nA q.2.kind;cases q.2.kind<;>rfl
  rw[f];refine jF fun q hq=>?_;have hq:=(Lb.mp hq).1;show(q.2.toRec.named q.1).target=target q.2;rw[sQ (h q hq)];rfl
 rw[e,xq];unfold more;rw[List.map_flatMap];refine eG fun n _=>?_;have e1:(zn o xs).of n A=(fF xs n .A).map PR.toRec:=of_eq o xs n .A;have e2:(zn o xs).of n AAAA=(fF xs n .AAAA).map PR.toRec:=of_eq o xs n .AAAA;rw[e1,e2,lK,lK,<-List.map_append,KY];rfl
theorem fZ:∀(f:Nat) (b:Bytes) (n:Name) (k:Nat),labelsAt f b=some (n,k)->k=size n
 |0,_,_,_,h=>by cases h
 |f+1,[],n,k,h=>by cases h
 |f+1,c::r,n,k,h=>by
  cases c with
  |zero =>
   have h:some (([]:Name),1)=some (n,k):=h;cases h;rfl
  |succ c =>
   have h:(if 63<c+1\/r.length<c+1 then none else(labelsAt f (r.drop (c+1))).map fun x=>((r.take (c+1)).map lower::x.1,x.2+(c+1)+1))=some (n,k):=h;split at h
   .cases h
   .rename_i q;obtain⟨⟨m,j⟩,hm,e⟩:=Kh.mp h;cases e;have:=fZ f _ m j hm;dsimp only at this ⊢;rw[size_cons,Kk,Kf];lia
theorem sg(f:Nat)(r:Bytes):labelsAt (f+1) (0::r)=some ([],1):=rfl
theorem uH(f:Nat):labelsAt (f+1) []=none:=rfl
theorem mf(h:c≠0):labelsAt (f+1) (c::r)=if 63<c\/r.length<c then none else(labelsAt f (r.drop c)).map fun x=>((r.take c).map lower::x.1,x.2+c+1):=by
 cases c with
 |zero=>exact absurd rfl h
 |succ c=>rfl
noncomputable def jd(p:Nat)(acc:Name):Option (Name×Nat)->Option Name
 |some (n,k)=>if 255<p+k then none else some (acc++n)
 |none=>none
noncomputable def dY(b:Bytes):Option Name:=jd 0 [] (labelsAt 129 (b.drop 12))
theorem CI{p:Nat}(hp:p<255):jd p acc (labelsAt (f+1) (0::r))=some acc:=by
 rw[sg];show(if _ then none else some (acc++[]))=_;rw[JU (by lia),Kw]
theorem EA{p:Nat}(hc:63<c):jd p acc (labelsAt (f+1) (c::r))=none:=by
 rw[mf (by lia),JX (.inl hc)];rfl
theorem CJ{p:Nat}(h0:c≠0)(hc:c<=63):jd p acc (labelsAt (f+2) (c::r))=jd (p+1+c) (acc++[(r.take c).map lower]) (labelsAt (f+1) (r.drop c)):=by
 rw[mf h0];by_cases hl:r.length<c
 .rw[JX (.inr hl),List.drop_eq_nil_of_le (by lia),uH];rfl
 .rw[JU (by lia)];cases labelsAt (f+1) (r.drop c) with
  |none=>rfl
  |some x =>
   obtain⟨n,k⟩:=x;show(if 255<p+(k+c+1) then none else some (acc++(r.take c).map lower::n))=if 255<p+1+c+k then none else some (acc++[(r.take c).map lower]++n)
   rw[Kx,show p+(k+c+1)=p+1+c+k by lia];rfl
theorem Ez{p:Nat}(hp:255<=p):jd p acc (labelsAt f r)=none:=by
 cases h:labelsAt f r with
 |none=>rfl
 |some x =>
  obtain⟨n,k⟩:=x;have:=fZ f r n k h;have:=size_pos n;show(if _ then none else _)=none;rw[JX (by lia)]
noncomputable def question(b:Bytes):Option (Name×Bytes) :=
 if word b 4≠1\/word b 6≠0\/word b 8≠0 then none
 else match dY b with
  |none=>none
  |some n=>if b.length<12+size n+4 then none else if 12+size n+4<b.length/\word b 10=0 then none else some (n,(b.drop 12).take (size n+4))
theorem nE{i:Nat}(h1:12+m<=b.length)(h2:i<m):((b.drop 12).take m).getD i 0=b.getD (12+i) 0:=by
 rw[List.getD_eq_getElem?_getD,List.getD_eq_getElem?_getD,List.getElem?_take_of_lt h2,List.getElem?_drop]
theorem De(h1:12<=b.length)(h2:b.getD 2 0<128):asked b=match question b with
  |none=>.wrong (word b 0) (b.getD 2 0/8%16) (b.getD 2 0%2==1)
  |some (n,q)=>.query ⟨word b 0,b.getD 2 0/8%16,b.getD 2 0%2==1,q,n,word q (q.length-4),word q (q.length-2)⟩:=by
 unfold asked question;rw[JU (by lia)];dsimp only;by_cases hw:word b 4≠1\/word b 6≠0\/word b 8≠0
 .rw[JX hw,JX hw]
 .rw[JU hw,JU hw];unfold dY;cases h:labelsAt 129 (b.drop 12) with
  |none=>rfl
  |some x =>
   obtain⟨n,k⟩:=x;have hk:=fZ _ _ _ _ h;have hn:jd 0 [] (some (n,k))=if 255<k then none else some n:=by
    show(if 255<0+k then none else some ([]++n))=_;rw[Nat.zero_add,Lg]
   rw[hn];dsimp only;by_cases h255:255<k
   .rw[JX (.inl h255),JX h255]
   .rw[JU h255];dsimp only;by_cases ha:b.length<12+k+4
    .rw[JX (.inr (.inl ha)),JX (by lia)]
    .by_cases hb:word b 10=0/\b.length≠12+k+4
     .rw[JX (.inr (.inr hb)),JU (by lia),JX ⟨by lia,hb.1⟩]
     .rw[JU (by
       rintro(q|q|q)
       .exact h255 q
       .exact ha q
       .exact hb q),JU (by lia),JU (by
       rintro⟨q1,q2⟩;exact hb ⟨q2,by lia⟩)]
      dsimp only;have hl:((b.drop 12).take (size n+4)).length=k+4:=by rw[Kf,J4];lia
      have w1:word ((b.drop 12).take (size n+4)) (((b.drop 12).take (size n+4)).length-4)=word b (12+k):=by
       unfold word;rw[hl,nE (by lia) (by lia),nE (by lia) (by lia)];rw[show 12+(k+4-4)=12+k by lia,show 12+(k+4-4+1)=12+k+1 by lia]
      have w2:word ((b.drop 12).take (size n+4)) (((b.drop 12).take (size n+4)).length-2)=word b (12+k+2):=by
       unfold word;rw[hl,nE (by lia) (by lia),nE (by lia) (by lia)];rw[show 12+(k+4-2)=12+k+2 by lia,show 12+(k+4-2+1)=12+k+2+1 by lia]
      rw[w1,w2,hk]
noncomputable def gE(b:Bytes)(bits code:Nat)(counts:List Nat):Bytes:=[b.getD 0 0,b.getD 1 0,128 ||| (b.getD 2 0 &&& 121) ||| bits,code]++counts.flatMap dW
theorem EL:∀x:_root_.Fin 128,∀own cut:Bool,128 ||| (x.val &&& 121) ||| ((if own then 4 else 0) ||| (if cut then 2 else 0))=128+8*(x.val/8%16)+(if own=true then 4 else 0)+(if cut=true then 2 else 0)+(if (x.val%2==1)=true then 1 else 0):=by decide +kernel
theorem uP(hb:∀x∈b,x<=255)(h1:12<=b.length)(h2:b.getD 2 0<128){own cut:Bool}{code:Nat}{counts:List Nat}(hc:∀c∈counts,c<65536):
  gE b ((if own then 4 else 0) ||| (if cut then 2 else 0)) code counts=head (word b 0) (b.getD 2 0/8%16) code own cut (b.getD 2 0%2==1) counts:=by
 unfold gE head;have g:∀i,b.getD i 0<=255:=fun i=>by
  rw[List.getD_eq_getElem?_getD];cases e:b[i]? with
  |none=>simp
  |some x=>exact hb x (Kr e)
 have g0:=g 0;have g1:=g 1;have e1:two (word b 0)=[b.getD 0 0,b.getD 1 0]:=by
  unfold two word;rw[show(0:Nat)+1=1 from rfl];congr 1
  .omega
  .congr 1;omega
 rw[e1,EL ⟨b.getD 2 0,h2⟩,eG (f:=dW) (g:=two) fun c hh=>iu (hc c hh)];rfl
noncomputable def sw(a:Bytes)(o:Out):Out:={o with bytes:=a++o.bytes.drop 12}
theorem tX{o:Out}(ha:a.length=12)(h:12<=o.bytes.length):(sw a o).bytes.length=o.bytes.length:=by
 show(a++o.bytes.drop 12).length=_;rw[JT,J4,ha];lia
theorem qh{o:Out}(h:12<=o.bytes.length)(x:Bytes)(pl:List (Name×Nat)):(⟨(sw a o).bytes++x,pl⟩:Out)=sw a ⟨o.bytes++x,pl⟩:=by
 show(⟨a++o.bytes.drop 12++x,pl⟩:Out)=⟨a++(o.bytes++x).drop 12,pl⟩;rw[List.drop_append_of_le_length h,Kx]
theorem gP:∀(n:Name) (o:Out) (short:Bool),∃x,(o.name short n).bytes=o.bytes++x/\1<=x.length
 |[],o,short=>⟨[0],rfl,by decide⟩
 |l::r,o,short=>by
  rw[Out.name];split
  .exact⟨_,rfl,by simp[two]⟩
  .obtain⟨x,hx,_⟩:=gP r _ short;refine⟨_,by rw[hx,Kx],by simp⟩
theorem uD(ha:a.length=12):∀(n:Name) (o:Out) (short:Bool),12<=o.bytes.length->(sw a o).name short n=sw a (o.name short n)
 |[],o,short,h=>qh h [0] o.places
 |l::r,o,short,h=>by
  rw[Out.name,Out.name];have hp:(sw a o).places=o.places:=rfl;rw[hp];split
  .exact qh h _ o.places
  .dsimp only;rw[tX ha h,qh h];exact uD ha r _ short (by show 12<=(o.bytes++_).length;rw[JT];lia)
noncomputable def bL(x:Out)(p:Piece):Out:=match p with
 |.bytes b=>{x with bytes:=x.bytes++b}
 |.name n short=>x.name short n
theorem kz(o:Out)(p:Piece):∃x,(bL o p).bytes=o.bytes++x:=by
 cases p with
 |bytes b=>exact⟨b,rfl⟩
 |name n short=>obtain⟨x,h,_⟩:=gP n o short;exact⟨x,h⟩
theorem d6:∀(ps:List Piece) (o:Out),∃x,(ps.foldl bL o).bytes=o.bytes++x
 |[],o=>⟨[],by simp⟩
 |p::ps,o=>by
  obtain⟨x,hx⟩:=kz o p;obtain⟨y,hy⟩:=d6 ps (bL o p);exact⟨x++y,by rw[Li,hy,hx,Kx]⟩
theorem mU(ha:a.length=12):∀(ps:List Piece) (o:Out),12<=o.bytes.length->ps.foldl bL (sw a o)=sw a (ps.foldl bL o)
 |[],o,_=>rfl
 |p::ps,o,h=>by
  rw[Li,Li];have e:bL (sw a o) p=sw a (bL o p):=by
   cases p with
   |bytes b=>exact qh h b o.places
   |name n short=>exact uD ha n o short h
  rw[e];obtain⟨x,hx⟩:=kz o p;exact mU ha ps _ (by rw[hx,JT];lia)
noncomputable def bJ(o:Out)(r:Record):Out:=⟨(o.name true r.name).bytes++(two r.type++(two 1++four r.ttl)++[0,0]),(o.name true r.name).places⟩
theorem iL(o:Out)(r:Record):o.record r=(let body:=r.data.foldl bL (bJ o r)
  let start:=(bJ o r).bytes.length
  {body with bytes:=body.bytes.take (start-2)++(two (body.bytes.length-start)++body.bytes.drop start)}):=by
 unfold Out.record bJ;dsimp only;have e:(o.name true r.name).bytes.length+10=((o.name true r.name).bytes++(two r.type++(two 1++four r.ttl)++[0,0])).length:=by
  rw[JT];rfl
 rw[e];rfl
theorem Af(ha:a.length=12)(o:Out)(r:Record)(h:12<=o.bytes.length):(sw a o).record r=sw a (o.record r):=by
 rw[iL,iL];dsimp only;have h1:bJ (sw a o) r=sw a (bJ o r):=by
  unfold bJ;rw[uD ha _ _ _ h];obtain⟨x,hx,_⟩:=gP r.name o true;exact qh (by rw[hx,JT];lia) _ _
 obtain⟨x,hx,_⟩:=gP r.name o true;have hl:22<=(bJ o r).bytes.length:=by
  show 22<=((o.name true r.name).bytes++_).length;rw[JT,hx,JT];have:(two r.type++(two 1++four r.ttl)++[0,0]).length=10:=rfl;lia
 obtain⟨y,hy⟩:=d6 r.data (bJ o r);rw[h1,mU ha _ _ (by lia),tX ha (by lia)];generalize hb:r.data.foldl bL (bJ o r)=body;rw[hb]at hy;have hbl:(bJ o r).bytes.length<=body.bytes.length:=by rw[hy,JT];lia
 rw[tX ha (by lia)];generalize (bJ o r).bytes.length=st at hl hbl;show(⟨(a++body.bytes.drop 12).take (st-2)++(two (body.bytes.length-st)++(a++body.bytes.drop 12).drop st),body.places⟩:Out)=⟨a++(body.bytes.take (st-2)++(two (body.bytes.length-st)++body.bytes.drop st)).drop 12,body.places⟩;congr 1;have e1:(a++body.bytes.drop 12).take (st-2)=a++(body.bytes.drop 12).take (st-2-12):=by rw[List.take_append,List.take_of_length_le (by lia),ha]
 have e2:(a++body.bytes.drop 12).drop st=body.bytes.drop st:=by
  rw[List.drop_append,List.drop_eq_nil_of_le (by lia),ha,Lg,List.drop_drop];congr 1;lia
 have e3:(body.bytes.take (st-2)++(two (body.bytes.length-st)++body.bytes.drop st)).drop 12=(body.bytes.drop 12).take (st-2-12)++(two (body.bytes.length-st)++body.bytes.drop st):=by
  rw[List.drop_append_of_le_length (by rw[Kf];lia),List.drop_take]
 rw[e1,e2,e3,Kx]
theorem jQ(o:Out)(r:Record):o.bytes.length+11<=(o.record r).bytes.length:=by
 rw[iL];dsimp only;obtain⟨x,hx,hx1⟩:=gP r.name o true;have hl:o.bytes.length+11<=(bJ o r).bytes.length:=by
  show _<=((o.name true r.name).bytes++_).length;rw[JT,hx,JT];have:(two r.type++(two 1++four r.ttl)++[0,0]).length=10:=rfl;lia
 obtain⟨y,hy⟩:=d6 r.data (bJ o r);rw[JT,JT,Kf,J4,hy,JT];have:(two ((bJ o r).bytes.length+y.length-(bJ o r).bytes.length)).length=2:=rfl;lia
theorem jP(ha:a.length=12):∀(rs:List Record) (o:Out) (k:Nat),12<=o.bytes.length->(sw a o).records rs k=((sw a (o.records rs k).1),(o.records rs k).2.1,(o.records rs k).2.2)
 |[],o,k,_=>rfl
 |r::rs,o,k,h=>by
  rw[Out.records,Out.records,Af ha o r h];have hg:=jQ o r;rw[tX ha (by lia)];split
  .rfl
  .exact jP ha rs _ _ (by lia)
theorem cE:∀(rs:List Record) (o:Out) (k:Nat),o.bytes.length<=512->o.bytes.length+11*((o.records rs k).2.1-k)<=(o.records rs k).1.bytes.length/\(o.records rs k).1.bytes.length<=512/\k<=(o.records rs k).2.1
 |[],o,k,h=>⟨by simp[Out.records],h,JY _⟩
 |r::rs,o,k,h=>by
  rw[Out.records];have hg:=jQ o r;split
  .exact⟨by simp,h,JY _⟩
  .rename_i q;have q:(o.record r).bytes.length<=512:=by simpa [LIMIT]using q
   obtain⟨a,b,c⟩:=cE rs (o.record r) (k+1) q;exact⟨by lia,b,by lia⟩
theorem fJ:∀n:Name,n.length+1<=size n
 |[]=>by decide
 |l::n=>by rw[size_cons,JS];have:=fJ n;lia
theorem l8(ho:size o<=255)(h:readName o w=some n):size n<=255:=by
 unfold readName at h;split at h
 .cases h;exact ho
 .split at h
  .cases h;decide
  .obtain⟨m,_,h⟩:=Kb.mp h;split at h
   .cases h
   .cases h;lia
theorem k8{f:Nat->Bytes}(hf:∀x,(f x).length=k):∀l:List Nat,(l.flatMap f).length=k*l.length
 |[]=>by simp
 |x::l=>by rw[K5,JT,hf,k8 hf l,JS,Nat.mul_add,Nat.mul_one,Nat.add_comm]
structure Small (p:PR):Prop where
 nm:size p.name<=255
 fr:p.said.front.length<=500000
 bk:p.said.back.length<=500000
 ns:p.said.names.length<=10
 nms:∀n∈p.said.names,size n<=255
 tm:p.time<=2147483647
noncomputable def ve(s:rM):Prop:=s.front.length<=500000/\s.back.length<=500000/\s.names.length<=10/\∀n∈s.names,size n<=255
theorem qw{y:Nat×Nat×Nat}(ho:size o<=255)(hy:y.1+y.2.1+y.2.2<=10)(h:a9 o y ws=some s):ve s:=by
 unfold a9 at h;split at h
 .cases h
 .rename_i hl;obtain⟨f,hf,h⟩:=Kb.mp h;obtain⟨ns,hn,h⟩:=Kb.mp h;obtain⟨b,hb,rfl⟩:=Kh.mp h;have l1:=bB _ _ _ hf;have l2:=bB _ _ _ hn;have l3:=bB _ _ _ hb;rw[Kf]at l1;rw[Kf,J4]at l2;rw[J4]at l3;refine⟨?_,?_,by show ns.length<=10;lia,fun n hn'=>?_⟩
  .show(f.flatMap dW).length<=_;rw[k8 (k:=2) fun _=>rfl];lia
  .show(b.flatMap gF).length<=_;rw[k8 (k:=4) fun _=>rfl];lia
  .obtain⟨w,_,hw⟩:=kT _ _ _ hn n hn';exact l8 ho hw
theorem sP:∀(l:List Bytes) (k:Nat),(∀t∈l,t.length<=k)->(l.flatMap fun t=>t.length::t).length<=(k+1)*l.length
 |[],k,_=>by simp
 |t::l,k,h=>by
  have h1:=sP l k fun t ht=>h t (J0 _ ht);have h2:=h t J8;rw[K5,JT,JS,JS,Nat.mul_add];lia
theorem qu{k:Kd}(ho:size o<=255)(hl:ws.length<=1000)(h:fV o k ws=some s):ve s:=by
 have nil:∀b:Bytes,b.length<=500000->ve ⟨b,[],[]⟩:=fun b hb=>⟨hb,by simp,by simp,fun _ z=>nomatch z⟩
 have laid:∀y,y.1+y.2.1+y.2.2<=10->a9 o y ws=some s->ve s:=fun y hy h=>qw ho hy h;cases k with
 |A =>
  obtain⟨w,_,h⟩:=Kb.mp (show Option.bind _ _=_ from h);obtain⟨b,hb,rfl⟩:=Kh.mp h;unfold gk at hb;split at hb
  .cases hb
  .have:=bB _ _ _ hb;exact nil _ (by lia)
 |AAAA =>
  obtain⟨w,_,h⟩:=Kb.mp (show Option.bind _ _=_ from h);obtain⟨b,hb,rfl⟩:=Kh.mp h;obtain⟨l,_,hb⟩:=Kb.mp hb;split at hb
  .cases hb
  .rename_i hl8;cases hb;refine nil _ ?_;rw[k8 (k:=2) fun _=>rfl];lia
 |TXT =>
  obtain⟨b,hb,rfl⟩:=Kh.mp (show Option.map _ _=_ from h);unfold gH at hb;split at hb
  .cases hb
  .obtain⟨l,hm,rfl⟩:=Kh.mp hb;have l1:=bB _ _ _ hm;refine nil _ (KH (sP l 257 fun t ht=>?_) (by rw[l1];lia));obtain⟨w,_,hw⟩:=kT _ _ _ hm t ht;unfold readText at hw;split at hw
   .cases hw
   .rename_i q;cases hw;have:w.length<=257:=by
     rcases Nat.lt_or_ge 257 w.length with z|z
     .exact absurd (.inr z) q
     .exact z
    rw[List.length_dropLast,J4];lia
 |NS=>exact laid (0,1,0) (by decide) h
 |CNAME=>exact laid (0,1,0) (by decide) h
 |PTR=>exact laid (0,1,0) (by decide) h
 |MX=>exact laid (1,1,0) (by decide) h
 |SRV=>exact laid (3,1,0) (by decide) h
 |SOA=>exact laid (0,2,5) (by decide) h
theorem oj(ho:size o<=255)(hl:ws.length<=1000)(h:cB o ws=some p):Small p:=by
 have tm:=(lZ h).2.2;unfold cB at h;split at h
 .rename_i n' t' k' w';obtain⟨n,hn,h⟩:=Kb.mp h;split at h
  .cases h
  .obtain⟨t,ht,h⟩:=Kb.mp h;obtain⟨k,_,h⟩:=Kb.mp h;obtain⟨s,hs,rfl⟩:=Kh.mp h;rw[JS,JS,JS]at hl;obtain⟨a,b,c,d⟩:=qu ho (by lia) hs;exact⟨l8 ho hn,a,b,c,d,tm⟩
 .cases h
theorem qE(xs:List PR)(p:PR)(n:Name):own (xs++[p]) n=own xs n++if p.name=n then [p] else []:=by
 unfold own;rw[List.filter_append];congr 1;by_cases h:p.name=n
 .rw[JX h,List.filter_cons_of_pos (by simpa using h)];rfl
 .rw[JU h,List.filter_cons_of_neg (by simpa using h)];rfl
theorem qF(h:∀p∈xs,p.name≠n):own xs n=[]:=by
 unfold own;rw[List.filter_eq_nil_iff];intro p hp;simpa using h p hp
theorem uO{ts:List Name}{j:Nat}(hts:∀m,m∈ts↔lQ o xs m)(hu:under p.name o=true)(hj:j<=p.name.length-o.length)(hin:p.name.drop j∈ts)(m:Name):
  m∈ts++(List.range j).map (fun i=>p.name.drop i)↔lQ o (xs++[p]) m:=by
 rw[Kj,KZ,hts];constructor
 .rintro(⟨h1,h2⟩|⟨i,hi,rfl⟩)
  .refine⟨h1,?_⟩;rcases h2 with h2|⟨q,hq,h2⟩
   .exact .inl h2
   .exact .inr ⟨q,by simp[hq],h2⟩
  .have hi:i<j:=by simpa using hi
   exact⟨iT hu (by lia),.inr ⟨p,by simp,xJ _ _ (by lia)⟩⟩
 .rintro⟨h1,h2⟩;rcases h2 with h2|⟨q,hq,h2⟩
  .exact .inl ⟨h1,.inl h2⟩
  .rcases Kj.mp hq with hq|hq
   .exact .inl ⟨h1,.inr ⟨q,hq,h2⟩⟩
   .obtain rfl:q=p:=by simpa using hq
    obtain⟨i,hi,rfl⟩:=(dR _ _).mp h2;by_cases hij:i<j
    .exact .inr ⟨i,by simpa using hij,rfl⟩
    .left;obtain⟨g1,g2⟩:=(hts _).mp hin;have hs:under (q.name.drop j) (q.name.drop i)=true:=by
      refine(dR _ _).mpr ⟨i-j,by rw[J4];lia,?_⟩;rw[List.drop_drop];congr 1;lia
     refine⟨h1,?_⟩;rcases g2 with g2|⟨r,hr,g2⟩
     .left;rw[g2]at hs;have l1:=iJ hs;have l2:=iJ h1;obtain⟨k,hk,e⟩:=(dR _ _).mp hs;have:k=0:=by
       have:=congrArg List.length e;rw[J4]at this;lia
      rw[<-e,this];rfl
     .exact .inr ⟨r,hr,oW g2 hs⟩
theorem wB(m:Name):m∈[o]↔lQ o [] m:=by
 rw[List.mem_singleton];constructor
 .rintro rfl;exact⟨mn _,.inl rfl⟩
 .rintro⟨_,h|⟨_,h,_⟩⟩
  .exact h
  .cases h
theorem C5(o:Name)(xs:List PR)(n:Name):(zn o xs).cut n=((List.range (n.length-o.length)).reverse.map fun i=>n.drop i).find? fun m=>!(fF xs m .NS).isEmpty:=by
 unfold Zone.cut Zone.down;have e:∀m,(zn o xs).of m NS=(fF xs m .NS).map PR.toRec:=fun m=>of_eq o xs m .NS;congr 1;funext m;rw[e,List.isEmpty_map]
noncomputable def iz(o:Out)(n:Name)(p:PR):Out :=
 let body:=(piecesOf p.kind p.said).foldl bL (bJ o (ax (n,p)))
 let start:=(bJ o (ax (n,p))).bytes.length
 {body with bytes:=body.bytes.take (start-2)++(dW (body.bytes.length-start)++body.bytes.drop start)}
theorem vS(o:Out)(n:Name)(p:PR):(iz o n p).bytes.length=(o.record (ax (n,p))).bytes.length:=by
 rw[iL];unfold iz;dsimp only;rw[JT,JT,JT,JT];rfl
theorem xZ{o:Out}(h:(iz o n p).bytes.length<65536):iz o n p=o.record (ax (n,p)):=by
 rw[iL];unfold iz at h ⊢;dsimp only at h ⊢;have hb:(ax (n,p)).data=piecesOf p.kind p.said:=rfl;rw[hb];obtain⟨y,hy⟩:=d6 (piecesOf p.kind p.said) (bJ o (ax (n,p)));generalize (piecesOf p.kind p.said).foldl bL (bJ o (ax (n,p)))=body at h hy ⊢;generalize (bJ o (ax (n,p))).bytes=hd at h hy ⊢;have l:body.bytes.length=hd.length+y.length:=by rw[hy,JT]
 have:body.bytes.length-hd.length<65536:=by
  rw[JT,JT,J4]at h;lia
 rw[iu this]
noncomputable def asks(type:Nat)(l:List PR):List PR:=l.filter fun p=>decide (type=p.kind.num\/type=255)
noncomputable def fh(p:PR):Bool:=decide (p.kind = .CNAME)
structure AW where
 next:Option Name
 code:Nat
 own:Bool
 an:List Pair
 au:List Pair
noncomputable def lead(o:Name)(xs:List PR)(type:Nat)(n:Name)(fs:List Pair):AW :=
 match (zn o xs).cut n with
 |some c=>⟨none,0,!fs.isEmpty,fs,(fF xs c .NS).map fun p=>(c,p)⟩
 |none=>match here o xs n with
  |none=>⟨none,3,true,fs,(fF xs o .SOA).map fun p=>(o,p)⟩
  |some l=>match l.filter fh,fG type with
   |p::_,true=>⟨if fs.length+1<16 then p.said.names.head? else none,0,true,fs++[(n,p)],[]⟩
   |_,_=>⟨none,0,true,fs++(asks type l).map fun p=>(n,p),if asks type l=[] then(fF xs o .SOA).map fun p=>(o,p) else []⟩
noncomputable def AW.reply(f:AW):Reply:=⟨f.code,f.own,f.an.map ax,f.au.map ax⟩
theorem pb{α:Type}(p:α->Bool):∀l:List α,l.find? p=(l.filter p).head?
 |[]=>rfl
 |a::l=>by
  rw[List.find?_cons,List.filter_cons];cases p a with
  |true=>rfl
  |false=>exact pb p l
theorem rm{l:List PR}(h:here o xs n=some l):∀p∈l,p∈xs:=by
 unfold here at h;split at h
 .cases h;exact fun p hp=>(gr.mp hp).1
 .split at h
  .cases h;exact fun p hp=>(gr.mp hp).1
  .cases h
theorem AA{fs:List Pair}(hu:under n o=true)(hn:n∉seen)(hwf:∀p∈xs,Wf p.kind p.said)(hk:fs.length+k+1=16):
  (zn o xs).look type (k+1) seen n (fs.map ax)=match (lead o xs type n fs).next with
   |some t=>(zn o xs).look type k (n::seen) t ((lead o xs type n fs).an.map ax)
   |none=>(lead o xs type n fs).reply:=by
 cases hc:(zn o xs).cut n with
 |some c =>
  rw[Ci hu hn hc];have:lead o xs type n fs=⟨none,0,!fs.isEmpty,fs,(fF xs c .NS).map fun p=>(c,p)⟩:=by unfold lead;rw[hc]
  rw[this];rfl
 |none =>
  rw[Ej hu hn hc];cases hh:here o xs n with
  |none =>
   have:lead o xs type n fs=⟨none,3,true,fs,(fF xs o .SOA).map fun p=>(o,p)⟩:=by unfold lead;rw[hc];dsimp only;rw[hh]
   rw[this];rfl
  |some l =>
   dsimp only;have key:∀f:AW,(match l.filter fh,fG type with
     |p::_,true=>(⟨if fs.length+1<16 then p.said.names.head? else none,0,true,fs++[(n,p)],[]⟩:AW)
     |_,_=>⟨none,0,true,fs++(asks type l).map fun p=>(n,p),if asks type l=[] then(fF xs o .SOA).map fun p=>(o,p) else []⟩)=f->lead o xs type n fs=f:=fun f h=>by
    unfold lead;rw[hc];dsimp only;rw[hh];exact h
   cases hf:fG type with
   |false =>
    rw[JU (by decide)];have:=key ⟨none,0,true,fs++(asks type l).map fun p=>(n,p),if asks type l=[] then(fF xs o .SOA).map fun p=>(o,p) else []⟩ (by rw[hf];cases l.filter fh<;>rfl);rw[this];show _=AW.reply _;unfold AW.reply;dsimp only;show(⟨0,true,(fs++(asks type l).map fun p=>(n,p)).map ax,if asks type l=[] then _ else _⟩:Reply)=_;split<;>rfl
   |true =>
    rw[JX rfl];have ef:(l.find? fun p=>decide (p.kind = .CNAME))=(l.filter fh).head?:=pb _ l;rw[ef];cases ha:l.filter fh with
    |nil =>
     have:=key ⟨none,0,true,fs++(asks type l).map fun p=>(n,p),if asks type l=[] then(fF xs o .SOA).map fun p=>(o,p) else []⟩ (by rw[ha]);rw[this];show _=AW.reply _;unfold AW.reply;dsimp only;show(⟨0,true,(fs++(asks type l).map fun p=>(n,p)).map ax,if asks type l=[] then _ else _⟩:Reply)=_;split<;>rfl
    |cons p r =>
     have:=key ⟨if fs.length+1<16 then p.said.names.head? else none,0,true,fs++[(n,p)],[]⟩ (by rw[ha,hf]);rw[this];have hp:p∈l.filter fh:=by rw[ha];exact J8
     obtain⟨hpl,hpk⟩:=Lb.mp hp;have hk5:p.kind = .CNAME:=of_decide_eq_true hpk;have hw:=hwf p (rm hh p hpl);have ht:(ax (n,p)).target=p.said.names.head?:=sQ hw n;dsimp only[List.head?];rw[ht];have hl1:p.said.names.length=1:=by rw[hk5]at hw;exact hw.2.2
     match hns:p.said.names,hl1 with
     |[t],_ =>
      dsimp only[List.head?];by_cases hlt:fs.length+1<16
      .rw[JX hlt]
      .rw[JU hlt];have:k=0:=by lia
       subst this;rw[Zone.look];rfl
theorem yt{fs:List Pair}(ho:size o<=255)(hn:size n<=255)(hxs:∀p∈xs,Small p)(hfs:∀q∈fs,size q.1<=255/\q.2∈xs):
  (∀t,(lead o xs type n fs).next=some t->size t<=255)/\(∀q∈(lead o xs type n fs).an++(lead o xs type n fs).au,size q.1<=255/\q.2∈xs)/\(lead o xs type n fs).an.length<=fs.length+1+xs.length:=by
 have dropsz:∀(m:Name) (i:Nat),size (m.drop i)<=size m:=by
  intro m;induction m with
  |nil=>intro i;simp
  |cons l m ih =>
   intro i;cases i with
   |zero=>exact JY _
   |succ i=>rw[List.drop_succ_cons,size_cons];have:=ih i;lia
 have ofm:∀(m:Name) (k:Kd),∀p∈fF xs m k,p∈xs:=fun m k p hp=>(iG.mp hp).1;unfold lead;split
 .rename_i c hc;have hcs:size c<=255:=by
   rw[C5]at hc;have:=K7 hc;obtain⟨i,_,rfl⟩:=KZ.mp this;have:=dropsz n i;lia
  refine⟨fun t ht=>(by cases ht),fun q hq=>?_,by dsimp only;lia⟩;rcases Kj.mp hq with hq|hq
  .exact hfs q hq
  .obtain⟨p,hp,rfl⟩:=KZ.mp hq;exact⟨hcs,ofm _ _ p hp⟩
 .split
  .refine⟨fun t ht=>(by cases ht),fun q hq=>?_,by dsimp only;lia⟩;rcases Kj.mp hq with hq|hq
   .exact hfs q hq
   .obtain⟨p,hp,rfl⟩:=KZ.mp hq;exact⟨ho,ofm _ _ p hp⟩
  .rename_i l hl;have hlm:=rm hl;have last:(∀t,(⟨none,0,true,fs++(asks type l).map fun p=>(n,p),if asks type l=[] then(fF xs o .SOA).map fun p=>(o,p) else []⟩:AW).next=some t->size t<=255)/\(∀q∈(⟨none,0,true,fs++(asks type l).map fun p=>(n,p),if asks type l=[] then(fF xs o .SOA).map fun p=>(o,p) else []⟩:AW).an++(⟨none,0,true,fs++(asks type l).map fun p=>(n,p),if asks type l=[] then(fF xs o .SOA).map fun p=>(o,p) else []⟩:AW).au,size q.1<=255/\q.2∈xs)/\(⟨none,0,true,fs++(asks type l).map fun p=>(n,p),if asks type l=[] then(fF xs o .SOA).map fun p=>(o,p) else []⟩:AW).an.length<=fs.length+1+xs.length:=by
    refine⟨fun t ht=>(by cases ht),fun q hq=>?_,?_⟩
    .rcases Kj.mp hq with hq|hq
     .rcases Kj.mp hq with hq|hq
      .exact hfs q hq
      .obtain⟨p,hp,rfl⟩:=KZ.mp hq;exact⟨hn,hlm p (Lb.mp hp).1⟩
     .dsimp only at hq;split at hq
      .obtain⟨p,hp,rfl⟩:=KZ.mp hq;exact⟨ho,ofm _ _ p hp⟩
      .cases hq
    .dsimp only;rw[JT,Kk];have h1:(asks type l).length<=l.length:=List.length_filter_le _ _;have h2:l.length<=xs.length:=by
      unfold here at hl;split at hl
      .cases hl;exact List.length_filter_le _ _
      .split at hl
       .cases hl;exact List.length_filter_le _ _
       .cases hl
     lia
   cases hf:l.filter fh with
   |nil=>exact last
   |cons p r =>
    cases fG type with
    |false=>exact last
    |true =>
     have hp:p∈l.filter fh:=by rw[hf];exact J8
     have hpx:=hlm p (Lb.mp hp).1;refine⟨fun t ht=>?_,fun q hq=>?_,by dsimp only;rw[JT];simp⟩
     .dsimp only at ht;split at ht
      .exact(hxs p hpx).nms t (List.mem_of_head? ht)
      .cases ht
     .dsimp only at hq;rw[Kw]at hq;rcases Kj.mp hq with hq|hq
      .exact hfs q hq
      .obtain rfl:q=(n,p):=by simpa using hq
       exact⟨hn,hpx⟩
theorem nT(m:Nat):∀(t acc:Bytes),((cutAt m t acc).map fun b=>b.length+1).sum=t.length+acc.length+1
 |[],acc=>by simp[cutAt]
 |x::t,acc=>by
  rw[cutAt];split
  .rw[J5,List.sum_cons,nT m t [],JS,J7];lia
  .rw[nT m t (acc++[x]),JT,JS,JS,J7];lia
theorem jh:∀(bs:List Bytes) (k:Nat) (xs:List PR),aI o k bs = .ok xs->2*xs.length<=(bs.map fun b=>b.length+1).sum
 |[],k,xs,h=>by cases h;simp
 |b::r,k,xs,h=>by
  rw[aI]at h;rw[J5,List.sum_cons];cases hb:wd b with
  |none=>rw[hb]at h;cases h
  |some ws =>
   rw[hb]at h
   match ws,hb,h with
   |[],hb,h =>
    dsimp only at h;have:=jh r (k+1) xs h;lia
   |w::ws,hb,h =>
    have hne:1<=b.length:=by
     cases b with
     |nil=>rw[tT]at hb;cases hb
     |cons _ _=>simp
    dsimp only at h;cases hr:cB o (w::ws) with
    |none=>rw[hr]at h;cases h
    |some x =>
     rw[hr]at h;dsimp only at h;cases hl:aI o (k+1) r with
     |error e=>rw[hl]at h;cases h
     |ok ys =>
      rw[hl]at h;cases h;have:=jh r (k+1) ys hl;rw[JS];lia
noncomputable def ic(pl:List (Name×Nat))(n:Name)(k:Nat):List (Name×Nat):=if k<16384/\(pl.any fun p=>p.1==n)=false then pl++[(n,k)] else pl
theorem wk(x:Out)(b:Bool):x.name b []=⟨x.bytes++[0],x.places⟩:=rfl
theorem qR{x:Out}{b:Bool}{l:Bytes}{r:Name}{q:Name×Nat}(hb:b=true)(h:(x.places.find? fun p=>p.1==l::r)=some q):x.name b (l::r)=⟨x.bytes++two (49152+q.2),x.places⟩:=by
 rw[Out.name,JX hb,h]
theorem qS{x:Out}{b:Bool}{l:Bytes}{r:Name}(h:b=true->(x.places.find? fun p=>p.1==l::r)=none):x.name b (l::r)=(⟨x.bytes++(l.length::l),ic x.places (l::r) x.bytes.length⟩:Out).name b r:=by
 rw[Out.name];have:(if b=true then x.places.find? fun p=>p.1==l::r else none)=none:=by
  split
  .rename_i hb;exact h hb
  .rfl
 rw[this];rfl
theorem pk(h:∀q∈pl,q.2<16384):∀q∈ic pl n k,q.2<16384:=by
 unfold ic;split
 .rename_i hk;intro q hq;rcases Kj.mp hq with hq|hq
  .exact h q hq
  .obtain rfl:q=(n,k):=by simpa using hq
   exact hk.1
 .exact h
theorem tF:(ic pl n k).length<=pl.length+1:=by
 unfold ic;split
 .rw[JT];exact JY _
 .lia
theorem iR:∀(n:Name) (x:Out) (b:Bool),(∀q∈x.places,q.2<16384)->(∀q∈(x.name b n).places,q.2<16384)
 |[],x,b,h=>h
 |l::r,x,b,h=>by
  cases hf:(if b=true then x.places.find? fun p=>p.1==l::r else none) with
  |some q =>
   have hb:b=true:=by
    cases b with
    |true=>rfl
    |false=>rw[JU (by decide)]at hf;cases hf
   rw[JX hb]at hf;rw[qR hb hf];exact h
  |none =>
   rw[qS fun hb=>by rw[JX hb]at hf;exact hf];exact iR r _ b (pk h)
theorem jA:∀(n:Name) (x:Out) (b:Bool),(x.name b n).places.length<=x.places.length+n.length/\(x.name b n).bytes.length<=x.bytes.length+size n+1
 |[],x,b=>⟨JY _,by rw[wk,JT];show x.bytes.length+1<=x.bytes.length+1+1;lia⟩
 |l::r,x,b=>by
  rw[size_cons,JS];cases hf:(if b=true then x.places.find? fun p=>p.1==l::r else none) with
  |some q =>
   have hb:b=true:=by
    cases b with
    |true=>rfl
    |false=>rw[JU (by decide)]at hf;cases hf
   rw[JX hb]at hf;rw[qR hb hf];refine⟨by dsimp only;lia,?_⟩;have:=size_pos r;rw[JT];show x.bytes.length+2<=_;lia
  |none =>
   rw[qS fun hb=>by rw[JX hb]at hf;exact hf];obtain⟨h1,h2⟩:=jA r ⟨x.bytes++(l.length::l),ic x.places (l::r) x.bytes.length⟩ b;have h3:=tF (pl:=x.places) (n:=l::r) (k:=x.bytes.length);dsimp only at h1 h2;rw[JT,JS]at h2;exact⟨by lia,by lia⟩
noncomputable def jj(short:Bool)(ns:List Name)(x:Out):Out:=ns.foldl (fun x n=>x.name short n) x
noncomputable def i7(k:Kd)(s:rM)(x:Out):Out:=let y:=jj (decide (k ≠ .SRV)) s.names ⟨x.bytes++s.front,x.places⟩;⟨y.bytes++s.back,y.places⟩
theorem gJ(b:Bool):∀(ns:List Name) (x:Out),(ns.map fun n=>Piece.name n b).foldl bL x=jj b ns x
 |[],x=>rfl
 |n::ns,x=>by
  rw[J5,Li,gJ b ns];rfl
theorem qo{k:Kd}(h:Wf k s)(x:Out):(piecesOf k s).foldl bL x=i7 k s x:=by
 obtain⟨f,ns,b⟩:=s;have app0:∀y:Out,(⟨y.bytes++[],y.places⟩:Out)=y:=fun y=>by rw[Kw]
 cases k<;>simp only[Wf]at h
 case A=>obtain⟨rfl,rfl⟩:=h;unfold i7 jj piecesOf bL;simp
 case AAAA=>obtain⟨rfl,rfl⟩:=h;unfold i7 jj piecesOf bL;simp
 case TXT=>obtain⟨rfl,rfl⟩:=h;unfold i7 jj piecesOf bL;simp
 case NS=>obtain⟨rfl,rfl,_⟩:=h;show(ns.map fun n=>Piece.name n true).foldl bL x=_;rw[gJ];unfold i7;dsimp only;rw[app0,app0];rfl
 case CNAME=>obtain⟨rfl,rfl,_⟩:=h;show(ns.map fun n=>Piece.name n true).foldl bL x=_;rw[gJ];unfold i7;dsimp only;rw[app0,app0];rfl
 case PTR=>obtain⟨rfl,rfl,_⟩:=h;show(ns.map fun n=>Piece.name n true).foldl bL x=_;rw[gJ];unfold i7;dsimp only;rw[app0,app0];rfl
 case MX=>obtain⟨rfl,_⟩:=h;show(Piece.bytes f::ns.map fun n=>Piece.name n true).foldl bL x=_;rw[Li,gJ];unfold i7;dsimp only;rw[app0];rfl
 case SRV=>obtain⟨rfl,_⟩:=h;show(Piece.bytes f::ns.map fun n=>Piece.name n false).foldl bL x=_;rw[Li,gJ];unfold i7;dsimp only;rw[app0];rfl
 case SOA =>
  obtain⟨rfl,_⟩:=h;show((ns.map fun n=>Piece.name n true)++[Piece.bytes b]).foldl bL x=_;rw[List.foldl_append,gJ];unfold i7;dsimp only;rw[app0];rfl
theorem nv(b:Bool):∀(ns:List Name) (x:Out),(∀q∈x.places,q.2<16384)->∀q∈(jj b ns x).places,q.2<16384
 |[],x,h=>h
 |n::ns,x,h=>nv b ns _ (iR n x b h)
noncomputable def zeros:Bytes:=List.replicate 12 0
structure JO where
 x:Out×Nat×Bool
 y:Out×Nat×Bool
 e:Out×Nat×Bool
noncomputable def qX(z:Zone)(r:Reply)(o:Out):JO :=
 let x:=o.records r.answers 0
 let y:=if x.2.2=true then x.1.records r.authority 0 else(x.1,0,false)
 let e:=if y.2.2=true then y.1.records (z.extra r) 0 else(y.1,0,true)
 ⟨x,y,e⟩
noncomputable def Cf(o:Name)(xs:List PR)(b:Bytes)(n:Name)(q:Bytes):Bytes :=
 let r:=(zn o xs).look (word q (q.length-4)) 16 [] n []
 let l:=qX (zn o xs) r ⟨zeros++q,questionPlaces n 12⟩
 gE b ((if r.own then 4 else 0) ||| (if !(l.x.2.2&&l.y.2.2) then 2 else 0)) r.code [1,l.x.2.1,l.y.2.1,l.e.2.1]++l.e.1.bytes.drop 12
theorem Gq(ha:a.length=12)(z:Zone)(r:Reply)(o:Out)(h:12<=o.bytes.length)(h2:o.bytes.length<=512):qX z r (sw a o)=⟨(sw a (qX z r o).x.1,(qX z r o).x.2),(sw a (qX z r o).y.1,(qX z r o).y.2),(sw a (qX z r o).e.1,(qX z r o).e.2)⟩:=by
 unfold qX;dsimp only;obtain⟨l1,l2,l3⟩:=cE r.answers o 0 h2;rw[jP ha r.answers o 0 h];generalize o.records r.answers 0=x at l1 l2 l3;obtain⟨x1,xk,xa⟩:=x;dsimp only at l1 l2 l3 ⊢;have hx12:12<=x1.bytes.length:=by lia
 cases xa with
 |false=>rfl
 |true =>
  rw[JX rfl,JX rfl,jP ha r.authority x1 0 hx12];obtain⟨m1,m2,m3⟩:=cE r.authority x1 0 l2;generalize x1.records r.authority 0=y at m1 m2 m3;obtain⟨y1,yk,ya⟩:=y;dsimp only at m1 m2 m3 ⊢;have hy12:12<=y1.bytes.length:=by lia
  cases ya with
  |false=>rfl
  |true =>
   rw[JX rfl,JX rfl,jP ha (z.extra r) y1 0 hy12]
theorem yp(z:Zone)(r:Reply)(o:Out)(h2:o.bytes.length<=512):(qX z r o).x.2.1<65536/\(qX z r o).y.2.1<65536/\(qX z r o).e.2.1<65536/\0<1:=by
 unfold qX;dsimp only;obtain⟨l1,l2,l3⟩:=cE r.answers o 0 h2;generalize o.records r.answers 0=x at l1 l2 l3;obtain⟨x1,xk,xa⟩:=x;dsimp only at l1 l2 l3 ⊢;refine⟨by lia,?_,?_,by decide⟩
 .cases xa with
  |false=>exact(by decide:(0:Nat)<65536)
  |true =>
   rw[JX rfl];obtain⟨m1,m2,m3⟩:=cE r.authority x1 0 l2;lia
 .cases xa with
  |false=>exact(by decide:(0:Nat)<65536)
  |true =>
   rw[JX rfl];obtain⟨m1,m2,m3⟩:=cE r.authority x1 0 l2;generalize x1.records r.authority 0=y at m1 m2 m3;obtain⟨y1,yk,ya⟩:=y;dsimp only at m1 m2 m3 ⊢;cases ya with
   |false=>exact(by decide:(0:Nat)<65536)
   |true =>
    rw[JX rfl];obtain⟨k1,k2,k3⟩:=cE (z.extra r) y1 0 m2;lia
theorem GY:∀x:_root_.Fin 256,(x.val &&& 128≠0)↔128<=x.val:=by decide +kernel
theorem GZ:∀x:_root_.Fin 256,(x.val &&& 120≠0)↔x.val/8%16≠0:=by decide +kernel
theorem Ew(hb:∀x∈b,x<=255)(i:Nat):b.getD i 0<=255:=by
 rw[List.getD_eq_getElem?_getD];cases e:b[i]? with
 |none=>simp
 |some x=>exact hb x (Kr e)
theorem wG{id opcode code:Nat}{own cut wanted:Bool}{a b d:Nat}:(head id opcode code own cut wanted [a,b,c,d]).length=12:=rfl
theorem jS{q:Bytes}(h:question b=some (n,q)):size n<=255/\q.length=size n+4/\q=(b.drop 12).take (size n+4):=by
 unfold question at h;split at h
 .cases h
 .cases hn:dY b with
  |none=>rw[hn]at h;cases h
  |some m =>
   rw[hn]at h;dsimp only at h;split at h
   .cases h
   .split at h
    .cases h
    .cases h;refine⟨?_,?_,rfl⟩
     .unfold dY at hn;cases hl:labelsAt 129 (b.drop 12) with
      |none=>rw[hl]at hn;cases hn
      |some x =>
       obtain⟨m',k⟩:=x;rw[hl]at hn;have hn:(if 255<0+k then none else some ([]++m'))=some n:=hn;have hk:=fZ _ _ _ _ hl;split at hn
       .cases hn
       .rw[Lg]at hn;cases hn;lia
     .rw[Kf,J4];lia
theorem vP(hb:∀x∈b,x<=255):Sn12.answer (zn o xs) b=if b.length<12 then [] else if b.getD 2 0 &&& 128≠0 then [] else match question b with
  |none=>gE b 0 1 [0,0,0,0]
  |some (n,q)=>if b.getD 2 0 &&& 120≠0 then gE b 0 4 [1,0,0,0]++q else if word q (q.length-2)≠1 then gE b 0 5 [1,0,0,0]++q else Cf o xs b n q:=by
 have g2:=Ew hb 2;have a1:=GY ⟨b.getD 2 0,by lia⟩;have a2:=GZ ⟨b.getD 2 0,by lia⟩;dsimp only at a1 a2;by_cases h12:b.length<12
 .rw[JX h12];have:asked b = .nothing:=by unfold asked;rw[JX (.inl h12)]
  unfold answer;rw[this]
 .rw[JU h12];by_cases h128:b.getD 2 0 &&& 128≠0
  .rw[JX h128];have:asked b = .nothing:=by unfold asked;rw[JX (.inr (a1.mp h128))]
   unfold answer;rw[this]
  .rw[JU h128];have hlt:b.getD 2 0<128:=by
    rcases Nat.lt_or_ge (b.getD 2 0) 128 with z|z
    .exact z
    .exact absurd (a1.mpr z) h128
   unfold answer;rw[De (by lia) hlt];cases hq:question b with
   |none =>
    dsimp only;have:=uP hb (by lia) hlt (own:=false) (cut:=false) (code:=1) (counts:=[0,0,0,0]) (by decide);exact this.symm
   |some nq =>
    obtain⟨n,q⟩:=nq;dsimp only;obtain⟨hsz,hql,_⟩:=jS hq;have simple:∀(code:Nat),(let r:Reply:=⟨code,false,[],[]⟩
      let o':Out:=⟨head (word b 0) (b.getD 2 0/8%16) r.code r.own false (b.getD 2 0%2==1) [1,0,0,0]++q,questionPlaces n 12⟩
      let x:=o'.records r.answers 0;let y:=if x.2.2=true then x.1.records r.authority 0 else(x.1,0,false)
      let e:=if y.2.2=true then y.1.records ((zn o xs).extra r) 0 else(y.1,0,true)
      head (word b 0) (b.getD 2 0/8%16) r.code r.own (!(x.2.2&&y.2.2)) (b.getD 2 0%2==1) [1,x.2.1,y.2.1,e.2.1]++e.1.bytes.drop 12)=gE b 0 code [1,0,0,0]++q:=by
     intro code;have he:(zn o xs).extra ⟨code,false,[],[]⟩=[]:=by
      have:=wQ (o:=o) (xs:=xs) (c:=code) (w:=false) (an:=[]) (au:=[]) (fun _ z=>nomatch z);exact this
     dsimp only;rw[he];show head (word b 0) (b.getD 2 0/8%16) code false false (b.getD 2 0%2==1) [1,0,0,0]++(head (word b 0) (b.getD 2 0/8%16) code false false (b.getD 2 0%2==1) [1,0,0,0]++q).drop 12=_;rw[List.drop_append_of_le_length (by rw[wG];exact JY _),List.drop_of_length_le (by rw[wG];exact JY _),Lg];have:=uP hb (by lia) hlt (own:=false) (cut:=false) (code:=code) (counts:=[1,0,0,0]) (by decide);rw[<-this];rfl
    unfold Zone.reply;dsimp only;by_cases hop:b.getD 2 0 &&& 120≠0
    .rw[JX hop,JX (a2.mp hop)];exact simple 4
    .rw[JU hop,JU (fun z=>hop (a2.mpr z))];by_cases hcl:word q (q.length-2)≠1
     .rw[JX hcl,JX hcl];exact simple 5
     .rw[JU hcl,JU hcl];have hA:ALIASES=16:=rfl;rw[hA];unfold Cf;dsimp only;generalize (zn o xs).look (word q (q.length-4)) 16 [] n []=r;generalize hhd:head (word b 0) (b.getD 2 0/8%16) r.code r.own false (b.getD 2 0%2==1) [1,0,0,0]=hd;have hl:hd.length=12:=by rw[<-hhd];rfl
      have hsw:(⟨hd++q,questionPlaces n 12⟩:Out)=sw hd ⟨zeros++q,questionPlaces n 12⟩:=by
       unfold sw;dsimp only;rw[List.drop_append_of_le_length (by decide),List.drop_of_length_le (by decide),Lg]
      have hz:(zeros++q).length=12+q.length:=by rw[JT];rfl
      have hlur:=Gq hl (zn o xs) r ⟨zeros++q,questionPlaces n 12⟩ (by show 12<=(zeros++q).length;lia) (by show(zeros++q).length<=512;lia);obtain⟨c1,c2,c3,_⟩:=yp (zn o xs) r ⟨zeros++q,questionPlaces n 12⟩ (by show(zeros++q).length<=512;lia);rw[<-hsw]at hlur;show head (word b 0) (b.getD 2 0/8%16) r.code r.own (!((qX (zn o xs) r ⟨hd++q,questionPlaces n 12⟩).x.2.2&&(qX (zn o xs) r ⟨hd++q,questionPlaces n 12⟩).y.2.2)) (b.getD 2 0%2==1) [1,(qX (zn o xs) r ⟨hd++q,questionPlaces n 12⟩).x.2.1,(qX (zn o xs) r ⟨hd++q,questionPlaces n 12⟩).y.2.1,(qX (zn o xs) r ⟨hd++q,questionPlaces n 12⟩).e.2.1]++(qX (zn o xs) r ⟨hd++q,questionPlaces n 12⟩).e.1.bytes.drop 12=_;rw[hlur];generalize qX (zn o xs) r ⟨zeros++q,questionPlaces n 12⟩=L at c1 c2 c3;dsimp only;have:=uP hb (by lia) hlt (own:=r.own) (cut:=!(L.x.2.2&&L.y.2.2)) (code:=r.code) (counts:=[1,L.x.2.1,L.y.2.1,L.e.2.1]) (by
       intro c hc;simp only[Kg,List.not_mem_nil,or_false]at hc;rcases hc with rfl|rfl|rfl|rfl<;>lia)
      rw[<-this];congr 1;unfold sw;dsimp only;rw[List.drop_append_of_le_length (by lia),List.drop_of_length_le (by lia),Lg]
noncomputable def lineRecs(o:Name)(b:Bytes):Option (List PR):=(wd b).bind fun ws=>if ws=[] then some [] else(cB o ws).map fun r=>[r]
theorem qv(o:Name)(k:Nat)(b:Bytes)(r:List Bytes):aI o k (b::r)=match lineRecs o b with
  |none=>.error k
  |some ys=>match aI o (k+1) r with
   |.error e=>.error e
   |.ok xs=>.ok (ys++xs):=by
 rw[aI];unfold lineRecs;cases wd b with
 |none=>rfl
 |some ws =>
  cases ws with
  |nil =>
   dsimp only[Option.bind_some];rw[JX rfl];dsimp only;cases aI o (k+1) r<;>rfl
  |cons w ws =>
   dsimp only[Option.bind_some];rw[JU (by simp)];cases cB o (w::ws) with
   |none=>rfl
   |some x =>
    dsimp only[Option.map_some];cases aI o (k+1) r<;>rfl
theorem uE{ys:List PR}(h:lineRecs o b=some ys):ys.length<=1:=by
 unfold lineRecs at h;obtain⟨ws,hw,h⟩:=Kb.mp h;split at h
 .cases h;exact Kq _
 .obtain⟨x,_,e⟩:=Kh.mp h;subst e;exact JY _
theorem Ck{α:Type}(f:α->Nat):∀{l:List α} {x:α},x∈l->f x<=(l.map f).sum
 |[],_,h=>nomatch h
 |y::l,x,h=>by
  rw[J5,List.sum_cons];rcases Kg.mp h with rfl|h
  .lia
  .have:=Ck f h;lia
theorem EF{t:Bytes}(h:b∈cutAt m t []):b.length<=t.length:=by
 have h1:=Ck (fun b:Bytes=>b.length+1) h;have h2:=nT m t [];rw[J7]at h2;have h1:b.length+1<=((cutAt m t []).map fun b=>b.length+1).sum:=h1;lia
theorem DD{l:List Bytes}:l.length<=(l.map fun b=>b.length+1).sum:=by
 induction l with
 |nil=>exact JY _
 |cons b l ih=>rw[J5,List.sum_cons,JS];lia
theorem AU(m:Nat)(t:Bytes):(cutAt m t []).length<=t.length+1:=by
 have h:=nT m t [];have:=DD (l:=cutAt m t []);rw[J7]at h;lia
theorem uC(h:badLine b=false):b.length<=600:=by
 unfold badLine at h;rw[Bool.or_eq_false_iff]at h;have:=of_decide_eq_false h.1;have e:MOSTLINE=600:=rfl;lia
structure Got (t:Bytes) (o:Name) (xs:List PR):Prop where
 sz:size o<=255
 few:xs.length<=40000
 un:∀p∈xs,under p.name o=true
 wf:∀p∈xs,Wf p.kind p.said
 sm:∀p∈xs,Small p
theorem mT{t:Bytes}(hl:t.length<=65536)(h:fk t = .ok (o,xs)):Got t o xs:=by
 unfold fk at h;cases hb:(cutAt 10 t []).findIdx? badLine with
 |some k=>rw[hb]at h;cases h
 |none =>
  rw[hb]at h;dsimp only at h;have nb:=List.findIdx?_eq_none_iff.mp hb;cases hc:cutAt 10 t []with
  |nil=>rw[hc]at h;cases h
  |cons first r =>
   rw[hc]at h nb;dsimp only at h;cases ho:fW first with
   |none=>rw[ho]at h;cases h
   |some o' =>
    rw[ho]at h;dsimp only at h;cases hr:aI o' 2 r with
    |error k=>rw[hr]at h;cases h
    |ok ys =>
     rw[hr]at h;have h:(Except.ok (o',ys):Except Nat (Name×List PR)) = .ok (o,xs):=h;injection h with h
     injection h with h1 h2
     subst h1 h2;obtain⟨hok,hne,hn⟩:=kC ho;have hsz:=hn.sz;obtain⟨_,hwf⟩:=jR r 2 ys hr;have hfew:=jh r 2 ys hr;have hsum:=nT 10 t [];rw[hc,J5,List.sum_cons,J7]at hsum;refine⟨hsz,by lia,fun p hp=>(hwf p hp).2.1,fun p hp=>(hwf p hp).1,fun p hp=>?_⟩;obtain⟨_,_,_,b,hbm,ws,hws,hrec⟩:=hwf p hp;have hbl:=uC (nb b (J0 _ hbm));have hcnt:=mP b.length b ws (JY _) hws;exact oj hsz (by lia) hrec
theorem Got.once{t:Bytes}(h:Got t o xs):Got t o (xs.foldl aF []):=by
 have m:∀p,p∈xs.foldl aF []->p∈xs:=fun p hp=>by
  rcases(m6 xs [] p).mp hp with z|z
  .exact nomatch z
  .exact z
 have len:∀(ys l:List PR),(ys.foldl aF l).length<=l.length+ys.length:=by
  intro ys;induction ys with
  |nil=>intro l;simp
  |cons y ys ih =>
   intro l;rw[Li];have h1:=ih (aF l y);have h2:(aF l y).length<=l.length+1:=by
    unfold aF;split
    .lia
    .rw[JT];exact JY _
   rw[JS];lia
 refine⟨h.sz,?_,fun p hp=>h.un p (m p hp),fun p hp=>h.wf p (m p hp),fun p hp=>h.sm p (m p hp)⟩;have:=len xs [];have:=h.few;rw[J7]at *;lia
theorem toNat_cast(l:List Nat):Sn12Neutral.nats (l.map fun(x:Nat)=>(x:Int))=l:=by
 unfold Sn12Neutral.nats;rw[KY];conv=>rhs;rw[<-List.map_id l]
 exact List.map_congr_left fun x _=>rfl
noncomputable def AZ(z q:Bytes):List Int:=match fk z with
 |.error k=>[-100-(k:Int)]
 |.ok x=>if (zn x.1 (x.2.foldl aF [])).good=true then((Sn12.answer (zn x.1 (x.2.foldl aF [])) q).length:Int)::(Sn12.answer (zn x.1 (x.2.foldl aF [])) q).map fun(x:Nat)=>(x:Int) else [-3]
theorem GM{q:Bytes}(hz:z.length<=65536)(hq:q.length<=65535):PySn12.answer (z.map fun(x:Nat)=>(x:Int)) (q.map fun(x:Nat)=>(x:Int))=AZ z q:=by
 have e0:∀zi qi:List Int,PySn12.answer zi qi=(Sn12Answer.answered ⟨Sn12Neutral.nats zi,(zi.length:Int),Sn12Neutral.nats qi,(qi.length:Int)⟩).value::Sn12Neutral.ints (Sn12Answer.answered ⟨Sn12Neutral.nats zi,(zi.length:Int),Sn12Neutral.nats qi,(qi.length:Int)⟩).out:=fun _ _=>rfl;rw[e0,toNat_cast,toNat_cast];unfold Sn12Answer.answered;dsimp only;rw[Kk,Kk,JU (by
  have e1:(MOST:Int)=65536:=rfl;have e2:(MOSTQUERY:Int)=65535:=rfl;rw[e1,e2];lia),zZ]
 unfold AZ;cases hr:fk z with
 |error k=>rfl
 |ok x =>
  obtain⟨o,xs⟩:=x;have g:=mT hz hr;dsimp only;have e:(xs.map PR.toRec).foldl aF []=(xs.foldl aF []).map PR.toRec:=wc PR.toRec (fun p=>Wf p.kind p.said) (fun a b wa wb h=>z6 wa wb h) xs [] g.wf (fun _ z=>nomatch z);rw[e];show _=if (zn o (xs.foldl aF [])).good=true then _ else _
  have ez:(⟨o,(xs.foldl aF []).map PR.toRec⟩:Zone)=zn o (xs.foldl aF []):=rfl;rw[ez];cases hg:(zn o (xs.foldl aF [])).good with
  |false=>rfl
  |true=>rfl
theorem Ei(z:Zone)(r:Reply)(o:Out)(h2:o.bytes.length<=512):(qX z r o).e.1.bytes.length<=512:=by
 unfold qX;dsimp only;obtain⟨l1,l2,l3⟩:=cE r.answers o 0 h2;generalize o.records r.answers 0=x at l1 l2 l3;obtain⟨x1,xk,xa⟩:=x;dsimp only at l1 l2 l3 ⊢;cases xa with
 |false=>exact l2
 |true =>
  rw[JX rfl];obtain⟨m1,m2,m3⟩:=cE r.authority x1 0 l2;generalize x1.records r.authority 0=y at m1 m2 m3;obtain⟨y1,yk,ya⟩:=y;dsimp only at m1 m2 m3 ⊢;cases ya with
  |false=>exact m2
  |true =>
   rw[JX rfl];exact(cE (z.extra r) y1 0 m2).2.1
theorem mG{x y c1 c2 c3 c4:Nat}:(gE b x y [c1,c2,c3,c4]).length=12:=rfl
theorem yH(hb:∀x∈b,x<=255):(Sn12.answer (zn o xs) b).length<=1000:=by
 rw[vP hb];split
 .exact Kq _
 split
 .exact Kq _
 cases hq:question b with
 |none=>exact(by decide:(12:Nat)<=1000)
 |some nq =>
  obtain⟨n,q⟩:=nq;obtain⟨h1,h2,_⟩:=jS hq;dsimp only;split
  .rw[JT,mG];lia
  split
  .rw[JT,mG];lia
  unfold Cf;dsimp only;rw[JT,mG,J4];have hz:(zeros++q).length=12+q.length:=by rw[JT];rfl
  have:=Ei (zn o xs) ((zn o xs).look (word q (q.length-4)) 16 [] n []) ⟨zeros++q,questionPlaces n 12⟩ (by rw[hz];lia);lia
theorem C4(m:Nat):∀t c:Bytes,cutAt m t c≠[]
 |[],c=>by simp[cutAt]
 |x::r,c=>by
  rw[cutAt];split
  .simp
  .exact C4 m r _
theorem EB{q:Bytes}(h:fk z = .error k):AZ z q=[-100-(k:Int)]:=by unfold AZ;rw[h]
theorem GL{q:Bytes}(h:fk z = .ok (o,xs))(n:¬gU o (xs.foldl aF [])):AZ z q=[-3]:=by
 unfold AZ;rw[h];dsimp only;rw[JU (fun z=>n ((wH _ _).mp z))]
theorem GK{q:Bytes}(h:fk z = .ok (o,xs))(n:gU o (xs.foldl aF [])):AZ z q=((Sn12.answer (zn o (xs.foldl aF [])) q).length:Int)::(Sn12.answer (zn o (xs.foldl aF [])) q).map fun(x:Nat)=>(x:Int):=by
 unfold AZ;rw[h];dsimp only;rw[JX ((wH _ _).mpr n)]
end NM
namespace L2
open PySem PySem.Spec PyProof.Rows
variable{h h' h2 B:Heap}{k t' i j n ep kk:Nat}{v u pm cdv oc vl vu cls:Value}{a b it C sl L ea:Addr}{x name m qual:Str}{E Q Qf:Value->Shared->Prop}{s s':Shared}{us its its' args bm sub:List Value}{o od oe:Obj}{P:Program}{e c tg iter value elt:Expr}{pins p0 pe:List (Addr×Obj)}{g':Array GenState}{d':Drawn}{ch fp:List Addr}{M:Model}{pos pos' p tpos apos p2 cpos np:Pos}{op:CmpOp}{st:Stmt}{es:Array DictEntry}{body:List Stmt}{R:Result->Shared->Prop}{lo hi:Option Int}{pl:Sem Bool}{f:Value->Value->Sem Value}{dx an dd:Option Addr}{mA mN:Str->Option Value}{kw:List (Str×Value)}{fd:FuncData}{ps sn:List Str}{kindOf:Str->Option NameKind}{sc scope:Scope}{osl:Array (Option Value)}{T newId:String}{items:Array Value}{cells:List (Str×Addr)}{ifs elts:List Expr}{en:DictEntry}{use:Option (Value->Sem Unit)}{col:Option Bool}{k0 k1 k2 k3 k5:Option Value}
inductive KD where
 |int (i:Int)|str (x:Str)|nil|cons (a r:KD)
 deriving DecidableEq
noncomputable def KD.dep:KD->Nat
 |.int _=>0
 |.str _=>0
 |.nil=>1
 |.cons a r=>max (a.dep+1) r.dep
noncomputable def KD.isT:KD->Bool
 |.nil=>true
 |.cons _ _=>true
 |_=>false
noncomputable def KD.hs(w:World):KD->Int×List Int
 |.int i=>(hashInt i,[])
 |.str x=>(hashStr w x,[])
 |.nil=>(reduceHash (Builtin.Tuple.tupleHashOf []),[])
 |.cons a r=>(reduceHash (Builtin.Tuple.tupleHashOf ((a.hs w).1::(r.hs w).2)),(a.hs w).1::(r.hs w).2)
noncomputable def KD.dr:KD->Nat×Nat
 |.int _=>(1,0)
 |.str _=>(1,0)
 |.nil=>(1,0)
 |.cons a r=>(a.dr.1+r.dr.2+1,a.dr.1+r.dr.2)
mutual
inductive nZ (h:Heap):KD->Value->Prop
 |int {i:Int} {t:Tok}:nZ h (.int i) (.int i t)
 |str {x:Str} {t:Tok}:nZ h (.str x) (.str x t)
 |tup {a:Addr} {o:Obj} {items:Array Value} {n:Nat} {k:KD}:h.get? a=some o->o.cls = .type "tuple"->o.data = .seq items n->bE h k items.toList->nZ h k (.ref a)
inductive bE (h:Heap):KD->List Value->Prop
 |nil:bE h .nil []
 |cons {a r:KD} {v:Value} {vs:List Value}:nZ h a v->bE h r vs->bE h (.cons a r) (v::vs)
end
section
theorem nZ.shape{k:KD}(x:nZ h k v):(∃i t,k = .int i/\v = .int i t)\/(∃y t,k = .str y/\v = .str y t)\/∃a items,v = .ref a/\h.IsTuple a items/\bE h k items.toList/\k.isT=true:=by
 cases x with
 |int=>exact .inl ⟨_,_,rfl,rfl⟩
 |str=>exact .inr (.inl ⟨_,_,rfl,rfl⟩)
 |tup h1 h2 h3 q =>
  refine .inr (.inr ⟨_,_,rfl,⟨_,h1,h2,_,h3⟩,q,?_⟩);generalize Array.toList _=l at q;cases q<;>rfl
theorem nZ.ref{k:KD}(x:nZ h k (.ref a)):∃items,h.IsTuple a items/\bE h k items.toList/\k.isT=true:=by
 rcases x.shape with⟨_,_,_,e⟩|⟨_,_,_,e⟩|⟨b,items,e,q⟩
 .cases e
 .cases e
 .cases e;exact⟨items,q⟩
theorem IsTuple.items_eq{i1 i2:Array Value}(x:h.IsTuple a i1)(y:h.IsTuple a i2):i1=i2:=by
 obtain⟨o,h1,_,n,h3⟩:=x;obtain⟨o',g1,_,n',g3⟩:=y;rw[h1]at g1;cases g1;rw[h3]at g3;cases g3;rfl
theorem KD.inj2:∀k:KD,(∀y vs,bE h k vs->bE h y vs->k=y)/\∀y v,nZ h k v->nZ h y v->k=y
 |.int i=>⟨(fun _ _ z=>nomatch z),fun y v hx hy=>by
   rcases hx.shape with⟨_,_,e1,rfl⟩|⟨_,_,e1,rfl⟩|⟨_,_,rfl,_,_,e⟩
   .cases e1;cases hy;rfl
   .cases e1
   .cases e⟩
 |.str i=>⟨(fun _ _ z=>nomatch z),fun y v hx hy=>by
   rcases hx.shape with⟨_,_,e1,rfl⟩|⟨_,_,e1,rfl⟩|⟨_,_,rfl,_,_,e⟩
   .cases e1
   .cases e1;cases hy;rfl
   .cases e⟩
 |.nil=>by
  have it:∀y vs,bE h .nil vs->bE h y vs->KD.nil=y:=fun y vs hx hy=>by cases hx;cases hy;rfl
  refine⟨it,fun y v hx hy=>?_⟩;rcases hx.shape with⟨_,_,e1,_⟩|⟨_,_,e1,_⟩|⟨a,l,rfl,t1,q1,_⟩
  .cases e1
  .cases e1
  .obtain⟨l',t2,q2,_⟩:=hy.ref;rw[IsTuple.items_eq t1 t2]at q1;exact it y _ q1 q2
 |.cons a r=>by
  have it:∀y vs,bE h (.cons a r) vs->bE h y vs->KD.cons a r=y:=fun y vs hx hy=>by
   cases hx with
   |cons h1 h2 =>
    cases hy with
    |cons g1 g2=>rw[(KD.inj2 a).2 _ _ h1 g1,(KD.inj2 r).1 _ _ h2 g2]
  refine⟨it,fun y v hx hy=>?_⟩;rcases hx.shape with⟨_,_,e1,_⟩|⟨_,_,e1,_⟩|⟨b,l,rfl,t1,q1,_⟩
  .cases e1
  .cases e1
  .obtain⟨l',t2,q2,_⟩:=hy.ref;rw[IsTuple.items_eq t1 t2]at q1;exact it y _ q1 q2
theorem nZ.inj{x y:KD}(hx:nZ h x v)(hy:nZ h y v):x=y:=(KD.inj2 x).2 y v hx hy
theorem KD.keep2(kp:∀b o,h.get? b=some o->o.cls = .type "tuple"->(∃items n,o.data = .seq items n)->h'.get? b=some o):∀k:KD,(∀vs,bE h k vs->bE h' k vs)/\∀v,nZ h k v->nZ h' k v
 |.int i=>⟨(fun _ z=>nomatch z),fun v hx=>by
   rcases hx.shape with⟨_,_,e1,rfl⟩|⟨_,_,e1,rfl⟩|⟨_,_,rfl,_,_,e⟩
   .cases e1;exact .int
   .cases e1
   .cases e⟩
 |.str i=>⟨(fun _ z=>nomatch z),fun v hx=>by
   rcases hx.shape with⟨_,_,e1,rfl⟩|⟨_,_,e1,rfl⟩|⟨_,_,rfl,_,_,e⟩
   .cases e1
   .cases e1;exact .str
   .cases e⟩
 |.nil=>by
  have it:∀vs,bE h .nil vs->bE h' .nil vs:=fun vs hx=>by cases hx;exact .nil
  refine⟨it,fun v hx=>?_⟩;rcases hx.shape with⟨_,_,e1,_⟩|⟨_,_,e1,_⟩|⟨a,l,rfl,⟨o,t1,t2,n,t3⟩,q1,_⟩
  .cases e1
  .cases e1
  .exact .tup (kp _ _ t1 t2 ⟨_,_,t3⟩) t2 t3 (it _ q1)
 |.cons a r=>by
  have it:∀vs,bE h (.cons a r) vs->bE h' (.cons a r) vs:=fun vs hx=>by
   cases hx with
   |cons h1 h2=>exact .cons ((KD.keep2 kp a).2 _ h1) ((KD.keep2 kp r).1 _ h2)
  refine⟨it,fun v hx=>?_⟩;rcases hx.shape with⟨_,_,e1,_⟩|⟨_,_,e1,_⟩|⟨b,l,rfl,⟨o,t1,t2,n,t3⟩,q1,_⟩
  .cases e1
  .cases e1
  .exact .tup (kp _ _ t1 t2 ⟨_,_,t3⟩) t2 t3 (it _ q1)
end
section
variable{prog:Program}{w:World}
theorem KD.hash2:∀k:KD,(∀(vs:List Value) (A:Around) (s:Shared) (b:Array Int) (Q:Array Int->Shared->Prop),bE s.heap k vs->A.units+k.dep<cLine+1 ->
   (∀b',b'.toList=b.toList++(k.hs w).2->Q b' {s with toks:=s.toks+k.dr.2})->wpAny (model prog w) A (forIn vs b fun x r=>do let h <-pyHash x;pure PUnit.unit;pure (ForInStep.yield (r.push h))) Q E s) /\
  ∀(v:Value) (A:Around) (s:Shared) (Q:Int->Shared->Prop),nZ s.heap k v->A.units+k.dep<cLine->Q (k.hs w).1 {s with toks:=s.toks+k.dr.1}->wpAny (model prog w) A (pyHash v) Q E s:=by
 have tupv:∀k:KD,k.isT=true->1<=k.dep->(k.hs w).1=reduceHash (Builtin.Tuple.tupleHashOf (k.hs w).2)->k.dr.1=k.dr.2+1->(∀(vs:List Value) (A:Around) (s:Shared) (b:Array Int) (Q:Array Int->Shared->Prop),bE s.heap k vs->A.units+k.dep<cLine+1 ->
   (∀b',b'.toList=b.toList++(k.hs w).2->Q b' {s with toks:=s.toks+k.dr.2})->wpAny (model prog w) A (forIn vs b fun x r=>do let h <-pyHash x;pure PUnit.unit;pure (ForInStep.yield (r.push h))) Q E s) ->
   ∀(v:Value) (A:Around) (s:Shared) (Q:Int->Shared->Prop),nZ s.heap k v->A.units+k.dep<cLine->Q (k.hs w).1 {s with toks:=s.toks+k.dr.1}->wpAny (model prog w) A (pyHash v) Q E s:=by
  intro k hT hdep hh hdr it v A s Q hx hu hq;rcases hx.shape with⟨_,_,e1,_⟩|⟨_,_,e1,_⟩|⟨a,l,rfl,⟨o,t1,t2,n,t3⟩,q1,_⟩
  .subst e1;cases hT
  .subst e1;cases hT
  .refine PySem.W.pyHash_slot (T:="tuple") ⟨_,t1,t2⟩ F.slot_tuple_hash F.entry_tuple_hash (F.args_tuple_hash_1 _) (beq_builtin_none _) (.inr (by lia)) ?_;show wpAny _ _ (Builtin.Tuple.tupleItemsOf (.ref a) >>= _) _ _ s;refine JR (wpAny_tupleItemsOf t1 t3 ?_);refine JR ?_;rw[<-Array.forIn_toList];refine it _ A.in1 s #[] _ q1 (by simp only[Around.in1_units];lia) fun b hb=>?_;show wpAny _ _ (retInt (Builtin.Tuple.tupleHashOf b.toList)) _ _ _;rw[hb];refine JR (wpAny_mkInt (JV ⟨_,_,rfl,?_⟩));rw[hh,hdr]at hq;simpa [Nat.add_assoc]using hq
 intro k;induction k with
 |int i =>
  exact⟨(fun _ _ _ _ _ z=>nomatch z),fun v A s Q hx _ hq=>by
   rcases hx.shape with⟨_,_,e1,rfl⟩|⟨_,_,e1,rfl⟩|⟨_,_,rfl,_,_,e⟩
   .cases e1;exact wpAny_pyHash_int hq
   .cases e1
   .cases e⟩
 |str x =>
  exact⟨(fun _ _ _ _ _ z=>nomatch z),fun v A s Q hx _ hq=>by
   rcases hx.shape with⟨_,_,e1,rfl⟩|⟨_,_,e1,rfl⟩|⟨_,_,rfl,_,_,e⟩
   .cases e1
   .cases e1;exact wpAny_pyHash_str hq
   .cases e⟩
 |nil =>
  have it:∀(vs:List Value) (A:Around) (s:Shared) (b:Array Int) (Q:Array Int->Shared->Prop),bE s.heap .nil vs->A.units+KD.nil.dep<cLine+1 ->
   (∀b',b'.toList=b.toList++(KD.nil.hs w).2->Q b' {s with toks:=s.toks+KD.nil.dr.2})->wpAny (model prog w) A (forIn vs b fun x r=>do let h <-pyHash x;pure PUnit.unit;pure (ForInStep.yield (r.push h))) Q E s:=by
   intro vs A s b Q hx _ hq;cases hx;exact JV (hq b (by simp[KD.hs]))
  exact⟨it,tupv .nil rfl (by decide) (by simp only[KD.hs]) rfl it⟩
 |cons a r iha ihr =>
  have it:∀(vs:List Value) (A:Around) (s:Shared) (b:Array Int) (Q:Array Int->Shared->Prop),bE s.heap (.cons a r) vs->A.units+(KD.cons a r).dep<cLine+1 ->
   (∀b',b'.toList=b.toList++((KD.cons a r).hs w).2->Q b' {s with toks:=s.toks+(KD.cons a r).dr.2})->wpAny (model prog w) A (forIn vs b fun x r=>do let h <-pyHash x;pure PUnit.unit;pure (ForInStep.yield (r.push h))) Q E s:=by
   intro vs A s b Q hx hu hq;have hd:(KD.cons a r).dep=max (a.dep+1) r.dep:=rfl;cases hx with
   |cons h1 h2 =>
    rw[List.forIn_cons];refine JR (JR (iha.2 _ A s _ h1 (by lia) ?_));refine JR (JV (JV ?_));refine ihr.1 _ A _ _ Q h2 (by lia) fun b' hb=>?_;have:=hq b' (by rw[hb];simp[KD.hs]);simpa [KD.dr,Nat.add_assoc]using this
  exact⟨it,tupv (.cons a r) rfl (by show 1<=max (a.dep+1) r.dep;lia) (by simp only[KD.hs]) rfl it⟩
end
section
variable{A:Around}
theorem bE.get:∀{k:KD} {vs:List Value},bE s.heap k vs->∀(j:Nat) (v:Value),vs[j]?=some v->∃a,nZ s.heap a v/\a.dep<k.dep
 |_,_,.nil,j,v,h=>by simp at h
 |_,_,.cons (a:=a) (r:=r) (v:=u) h1 h2,0,v,h=>by
  have:u=v:=by simpa using h
  subst this;exact⟨a,h1,by show a.dep<max (a.dep+1) r.dep;lia⟩
 |_,_,.cons (a:=a) (r:=r) h1 h2,j+1,v,h=>by
  obtain⟨c,hc,hd⟩:=bE.get h2 j v (by simpa using h);exact⟨c,hc,by show c.dep<max (a.dep+1) r.dep;lia⟩
theorem bE.same:∀{x y:KD} {us vs:List Value} {e:Nat->Bool},bE s.heap x us->bE s.heap y vs->(∀(j:Nat) (u v:Value) (a b:KD),us[j]?=some u->vs[j]?=some v->nZ s.heap a u->nZ s.heap b v->e j=decide (a=b)) ->
  ((List.range (min us.length vs.length)).all e&&us.length==vs.length)=decide (x=y)
 |_,_,_,_,e,.nil,.nil,_=>by simp
 |_,_,_,_,e,.nil,.cons _ _,_=>by simp
 |_,_,_,_,e,.cons _ _,.nil,_=>by simp
 |_,_,_,_,e,.cons (a:=a) (r:=r) (v:=u) (vs:=us) h1 h2,.cons (a:=b) (r:=q) (v:=v) (vs:=vs) g1 g2,he=>by
  have ih:=bE.same (e:=fun j=>e (j+1)) h2 g2 fun j u v a b e1 e2=>he (j+1) u v a b (by simpa using e1) (by simpa using e2);have h0:=he 0 u v a b rfl rfl h1 g1;have er:(List.range (min (u::us).length (v::vs).length)).all e=(e 0&&(List.range (min us.length vs.length)).all fun j=>e (j+1)):=by
   rw[JS,JS,Nat.succ_min_succ,List.range_succ_eq_map,K3,List.all_map];rfl
  have el:((u::us).length==(v::vs).length)=(us.length==vs.length):=by simp
  rw[er,el,Bool.and_assoc,ih,h0];by_cases e1:a=b
  .by_cases e2:r=q
   .simp[e1,e2]
   .simp[e1,e2]
  .simp[e1]
theorem KD.eqAt:∀(n:Nat) (x y:KD) (u v:Value) (A:Around),x.dep<=n->nZ s.heap x u->nZ s.heap y v->A.units+n<cLine->SeqAt.EqAt A s u v (decide (x=y)):=by
 intro n;induction n with
 |zero =>
  intro x y u v A hn hx hy hu;rcases hx.shape with⟨i,t,rfl,rfl⟩|⟨i,t,rfl,rfl⟩|⟨a,l,rfl,t1,q1,hT⟩
  .rcases hy.shape with⟨j,t',rfl,rfl⟩|⟨j,t',rfl,rfl⟩|⟨b,l,rfl,t2,q2,hT⟩
   .have:decide (KD.int i=KD.int j)=(i==j):=by by_cases e:i=j<;>simp[e]
    rw[this];exact SeqAt.EqAt.int_int i t j t'
   .have:decide (KD.int i=KD.str j)=false:=by simp
    rw[this];exact SeqAt.EqAt.int_str i t j t'
   .have:decide (KD.int i=y)=false:=Kl fun z=>by subst z;cases hT
    rw[this];exact SeqAt.EqAt.int_tuple i t t2 (by lia)
  .rcases hy.shape with⟨j,t',rfl,rfl⟩|⟨j,t',rfl,rfl⟩|⟨b,l,rfl,t2,q2,hT⟩
   .have:decide (KD.str i=KD.int j)=false:=by simp
    rw[this];exact SeqAt.EqAt.str_int i t j t'
   .have:decide (KD.str i=KD.str j)=(i==j):=by by_cases e:i=j<;>simp[e]
    rw[this];exact SeqAt.EqAt.str_str i t j t'
   .have:decide (KD.str i=y)=false:=Kl fun z=>by subst z;cases hT
    rw[this];exact SeqAt.EqAt.str_tuple i t t2 (by lia)
  .exfalso;cases x with
   |int _=>cases hT
   |str _=>cases hT
   |nil=>exact absurd hn (by decide)
   |cons a r=>have:(KD.cons a r).dep=max (a.dep+1) r.dep:=rfl;lia
 |succ n ih =>
  intro x y u v A hn hx hy hu;by_cases h0:x.dep<=n
  .exact ih x y u v A h0 hx hy (by lia)
  .rcases hx.shape with⟨i,t,rfl,rfl⟩|⟨i,t,rfl,rfl⟩|⟨a,l,rfl,t1,q1,hT⟩
   .exact absurd (Kq _) h0
   .exact absurd (Kq _) h0
   .rcases hy.shape with⟨j,t',rfl,rfl⟩|⟨j,t',rfl,rfl⟩|⟨b,l',rfl,t2,q2,hT2⟩
    .have:decide (x=KD.int j)=false:=Kl fun z=>by subst z;cases hT
     rw[this];exact SeqAt.EqAt.tuple_int j t' t1 (by lia)
    .have:decide (x=KD.str j)=false:=Kl fun z=>by subst z;cases hT
     rw[this];exact SeqAt.EqAt.tuple_str j t' t1 (by lia)
    .by_cases hab:a=b
     .subst hab;have:x=y:=hx.inj hy;subst this;rw[KO rfl];exact SeqAt.EqAt.same _
     .refine SeqAt.EqAt.of_refs hab ?_;have hit:∀(j:Nat) (h1:j<l.size) (h2:j<l'.size),∃k:Bool,SeqAt.EqAt A.in1 s l[j] l'[j] k/\∀c d,nZ s.heap c l[j]->nZ s.heap d l'[j]->k=decide (c=d):=by
       intro j h1 h2;obtain⟨c,hc,hcd⟩:=bE.get q1 j l[j] (by simp);obtain⟨d,hd,_⟩:=bE.get q2 j l'[j] (by simp);refine⟨decide (c=d),ih c d _ _ A.in1 (by lia) hc hd (by simp only[Around.in1_units];lia),fun c' d' hc' hd'=>?_⟩;rw[hc.inj hc',hd.inj hd']
      let e:Nat->Bool:=fun j=>if h:j<l.size/\j<l'.size then Classical.choose (hit j h.1 h.2) else false
      have hp:∀(j:Nat) (h1:j<l.size) (h2:j<l'.size),e j=Classical.choose (hit j h1 h2):=fun j h1 h2=>by
       show(if h:j<l.size/\j<l'.size then Classical.choose (hit j h.1 h.2) else false)=_;rw[dif_pos ⟨h1,h2⟩]
      have main:=SeqAt.RcAt.tuples (e:=e) t1 t2 (show A.units<cLine by lia) fun j h1 h2=>by
       rw[hp j h1 h2];exact(Classical.choose_spec (hit j h1 h2)).1
      have fin:=bE.same (e:=e) q1 q2 fun j u v c d e1 e2 hc hd=>by
       have h1:j<l.size:=by simpa using(JW.mp e1).1
       have h2:j<l'.size:=by simpa using(JW.mp e2).1
       rw[hp j h1 h2];refine(Classical.choose_spec (hit j h1 h2)).2 c d ?_ ?_
       .have:l[j]=u:=by simpa [h1]using e1
        rw[this];exact hc
       .have:l'[j]=v:=by simpa [h2]using e2
        rw[this];exact hd
      rw[<-fin];simpa using main
end
theorem KD.quiet2{prog:Program}{w:World}:∀(n:Nat) (k:KD) (v:Value) (A:Around) (s:Shared) (Q:Bool->Shared->Prop),k.dep<=n->nZ s.heap k v->Q true s->wpAny (model prog w) A (eqIsQuiet n v) Q E s:=by
 intro n;induction n with
 |zero =>
  intro k v A s Q hn hx hq;rcases hx.shape with⟨i,t,rfl,rfl⟩|⟨i,t,rfl,rfl⟩|⟨a,l,rfl,t1,q1,hT⟩
  .rw[eqIsQuiet_byValue 0 rfl];exact JV hq
  .rw[eqIsQuiet_byValue 0 rfl];exact JV hq
  .exfalso;cases k with
   |int _=>cases hT
   |str _=>cases hT
   |nil=>exact absurd hn (by decide)
   |cons a r=>have:(KD.cons a r).dep=max (a.dep+1) r.dep:=rfl;lia
 |succ n ih =>
  intro k v A s Q hn hx hq;rcases hx.shape with⟨i,t,rfl,rfl⟩|⟨i,t,rfl,rfl⟩|⟨a,l,rfl,⟨o,t1,t2,m,t3⟩,q1,hT⟩
  .rw[eqIsQuiet_byValue _ rfl];exact JV hq
  .rw[eqIsQuiet_byValue _ rfl];exact JV hq
  .have hTy:s.TypeIs (.ref a) "tuple":=⟨o,t1,t2⟩
   unfold eqIsQuiet;refine JR (wpAny_specialOf hTy F.slot_tuple_eq.lookup ?_);show wpAny _ _ (isInstance (.ref a) (.type "tuple") >>= _) _ _ s;refine JR (wpAny_isInstance hTy isSubtype_tuple_tuple ?_);simp only[Bool.not_true,KB,if_false];refine JR (wpAny_seqItems t1 t3 ?_);refine JR ?_;show wpAny _ _ (forIn l _ _) _ _ s;rw[<-Array.forIn_toList];refine wpAny_forIn_list _ (fun rest r s'=>r.1=none/\s'=s/\∀v∈rest,∃c,nZ s.heap c v/\c.dep<=n) _ ?_ ?_ _ _ ⟨rfl,rfl,fun v hv=>?_⟩
   .rintro v rest r s' ⟨hr,rfl,hall⟩;obtain⟨c,hc,hd⟩:=hall v J8;refine JR (ih c v A s' _ hd hc ?_);simp only[Bool.not_true,KB,if_false];exact JV ⟨rfl,rfl,fun u hu'=>hall u (J0 _ hu')⟩
   .rintro⟨r1,r2⟩ s' ⟨hr,rfl,_⟩;simp only at hr;subst hr;exact JV hq
   .obtain⟨j,hj⟩:=List.mem_iff_getElem?.mp hv;obtain⟨c,hc,hd⟩:=bE.get q1 j v hj;exact⟨c,hc,by lia⟩
noncomputable def j2(prog:Program)(w:World):HeapKind prog w KD where
 is:=fun h k a=>nZ h k (.ref a)/\k.dep<=6
 hash:=fun k=>(k.hs w).1
 draws:=fun k=>k.dr.1
 room:=fun A=>A.units+16<cLine
 inj:=fun hx hy=>hx.1.inj hy.1
 keeps:=fun {h h' k a d o es ep} x ho hd hs=>⟨(KD.keep2 (fun b ob hb _ ⟨items,n,hdat⟩=>by
  have hne:b≠d:=by
   rintro rfl
   rw[ho]at hb;cases hb
   rw[hd]at hdat;cases hdat
  exact(hs.2 b hne).trans hb) k).2 _ x.1,x.2⟩
 pyHash:=fun {A E s k a Q} hu hk h=>(KD.hash2 k).2 _ A s Q hk.1 (by have:=hk.2;lia) h
 eqBool:=fun {A E s x y a b Q} hu hx hy h=>KD.eqAt 6 x y _ _ A hx.2 hx.1 hy.1 (by lia) prog w E Q h
 quiet:=fun {A E s k a Q} hk h=>KD.quiet2 8 k _ A s Q (by have:=hk.2;lia) hk.1 h
noncomputable abbrev Key:=Sum Int Str
noncomputable def nB:Key->Value->Bool
 |.inl k,v=>Value.isInt k v
 |.inr x,v=>Value.isStrOf x v
noncomputable def IL(w:World):Key->Int
 |.inl k=>hashInt k
 |.inr x=>hashStr w x
theorem dQ:∀{k:Key} {v:Value},nB k v=true->(∃i t,k=Sum.inl i/\v=Value.int i t)\/(∃x t,k=Sum.inr x/\v=Value.str x t)
 |.inl i,v,h=>by
  obtain⟨t,e⟩:=Value.isInt_shape (k:=i) (v:=v) h;exact .inl ⟨i,t,rfl,e⟩
 |.inr x,v,h=>by
  obtain⟨t,e⟩:=Value.isStrOf_shape (x:=x) (v:=v) h;exact .inr ⟨x,t,rfl,e⟩
theorem AD(i:Int)(t:Tok):nB (.inl i) (.int i t)=true:=by simp[nB,Value.isInt]
theorem AC(x:Str)(t:Tok):nB (.inr x) (.str x t)=true:=by simp[nB,Value.isStrOf]
theorem Gy(a b:Int):decide ((Sum.inl a:Key)=Sum.inl b)=(a==b):=by
 by_cases e:a=b
 .subst e;simp
 .have h:¬(Sum.inl a:Key)=Sum.inl b:=fun q=>e (Sum.inl.inj q);rw[Kl h];exact(KP.mpr e).symm
theorem Gv(a b:Str):decide ((Sum.inr a:Key)=Sum.inr b)=decide (a=b):=by
 by_cases e:a=b
 .subst e;simp
 .have h:¬(Sum.inr a:Key)=Sum.inr b:=fun q=>e (Sum.inr.inj q);rw[Kl h,Kl e]
theorem Gx(a:Int)(b:Str):decide ((Sum.inl a:Key)=Sum.inr b)=false:=Kl (fun q=>nomatch q)
theorem Gw(a:Str)(b:Int):decide ((Sum.inr a:Key)=Sum.inl b)=false:=Kl (fun q=>nomatch q)
noncomputable def gq(prog:Program)(w:World):PySem.KeyKind prog w Key where
 is:=nB
 hash:=IL w
 inj:=fun v a b ha hb=>by
  rcases dQ ha with⟨i,t,rfl,rfl⟩|⟨x,t,rfl,rfl⟩
  .rcases dQ hb with⟨j,u,rfl,e⟩|⟨y,u,rfl,e⟩
   .injection e with e1 _;rw[e1]
   .exact nomatch e
  .rcases dQ hb with⟨j,u,rfl,e⟩|⟨y,u,rfl,e⟩
   .exact nomatch e
   .injection e with e1 _;rw[e1]
 byValue:=fun k v h=>by
  rcases dQ h with⟨i,t,rfl,rfl⟩|⟨x,t,rfl,rfl⟩<;>rfl
 pyHash:=fun hv h=>by
  rcases dQ hv with⟨i,t,rfl,rfl⟩|⟨x,t,rfl,rfl⟩
  .exact wpAny_pyHash_int h
  .exact wpAny_pyHash_str h
 eqBool:=fun hu hv h=>by
  rcases dQ hu with⟨i,t,rfl,rfl⟩|⟨x,t,rfl,rfl⟩
  .rcases dQ hv with⟨j,u,rfl,rfl⟩|⟨y,u,rfl,rfl⟩
   .rw[Gy]at h;exact wpAny_eqBool_int h
   .rw[Gx]at h;exact SeqAt.EqAt.int_str i t y u _ _ _ _ h
  .rcases dQ hv with⟨j,u,rfl,rfl⟩|⟨y,u,rfl,rfl⟩
   .rw[Gw]at h;exact SeqAt.EqAt.str_int x t j u _ _ _ _ h
   .rw[Gv]at h;exact wpAny_eqBool_str h
 «strs»:=fun k x t v h=>by
  rcases dQ h with⟨i,u,rfl,e⟩|⟨y,u,rfl,e⟩
  .exact nomatch e
  .injection e with e1 _
   subst e1
   cases v<;>rfl
theorem wq(prog:Program)(w:World)(i:Int)(t:Tok):(gq prog w).is (.inl i) (.int i t)=true:=AD i t
theorem kO(prog:Program)(w:World)(x:Str)(t:Tok):(gq prog w).is (.inr x) (.str x t)=true:=AC x t
inductive V where
 |non|bl (b:Bool)|int (i:Int)|str (x:Str)|byt (b:Array UInt8)|flt (b:UInt64)|ref (a:Addr)|ty (n:String)
 deriving DecidableEq
variable{y:V}{xs ys:List V}{kvs:List (KD×V)}
noncomputable def RelV:V->Value->Prop
 |.non,u=>u=Value.none
 |.bl b,u=>u=Value.bool b
 |.int i,u=>∃t,u=Value.int i t
 |.str x,u=>∃t,u=Value.str x t
 |.byt b,u=>∃t,u=Value.bytes b t
 |.flt b,u=>∃t,u=Value.float b t
 |.ref a,u=>u=Value.ref a
 |.ty n,u=>u=Value.type n
noncomputable abbrev aU:List V->List Value->Prop:=Paired RelV
theorem aU.length(r:aU xs us):xs.length=us.length:=Paired.length r
theorem aU.get:∀{xs:List V} {us:List Value} {i:Nat} {x:V},aU xs us->xs[i]?=some x->∃u,us[i]?=some u/\RelV x u
 |_,_,_,_,.nil,e=>by simp at e
 |_,_,0,_,.cons r _,e=>by simp at e;subst e;exact⟨_,rfl,r⟩
 |_,_,i+1,x,.cons _ t,e=>by
  obtain⟨u,h1,h2⟩:=aU.get (i:=i) (x:=x) t (by simpa using e);exact⟨u,by simpa using h1,h2⟩
theorem aU.set{x:V}(r:RelV x u):∀{xs:List V} {us:List Value} (i:Nat),aU xs us->aU (xs.set i x) (us.set i u)
 |_,_,_,.nil=>.nil
 |_,_,0,.cons _ t=>.cons r t
 |_,_,i+1,.cons q t=>.cons q (aU.set r i t)
theorem aU.append:∀{xs ys:List V} {us ws:List Value},aU xs us->aU ys ws->aU (xs++ys) (us++ws)
 |_,_,_,_,.nil,s=>s
 |_,_,_,_,.cons r t,s=>.cons r (aU.append t s)
theorem aU.take:∀{xs:List V} {us:List Value} (n:Nat),aU xs us->aU (xs.take n) (us.take n)
 |_,_,0,_=>.nil
 |_,_,_+1,.nil=>.nil
 |_,_,n+1,.cons r t=>.cons r (aU.take n t)
theorem aU.drop:∀{xs:List V} {us:List Value} (n:Nat),aU xs us->aU (xs.drop n) (us.drop n)
 |_,_,0,r=>r
 |_,_,_+1,.nil=>.nil
 |_,_,n+1,.cons _ t=>aU.drop n t
noncomputable def kg:Option V->Option Value->Prop
 |some v,some u=>RelV v u
 |none,none=>True
 |_,_=>False
noncomputable def KV{κ:Type}:List (κ×V)->List (κ×Value)->Prop:=Paired fun(p:κ×V) (q:κ×Value)=>p.1=q.1/\RelV p.2 q.2
noncomputable def kV:Key->V
 |.inl i=>.int i
 |.inr x=>.str x
inductive HO where
 |lst (xs:List V)
 |tup (xs:List V)
 |dK (kvs:List (Key×V))|dT (kvs:List (KD×V))
 |set (S:Int->Bool) (n:Nat)
 |ins (C dx:Addr) (fs:List (Str×V))
 |own (x:Addr)
 |xd (fs:List (Str×V))
 |met (f x:Addr)
 |rng (lo hi:Int)
 |frz (o:Obj) (u:HO)
 |tbl (ps:Array Value)
 |ext (φ:Heap->Prop)
noncomputable abbrev Hp:=Addr->Option HO
variable{H H' H1:Hp}{Qd:Hp->Prop}
noncomputable def upd(H:Hp)(a:Addr)(o:HO):Hp:=fun b=>if b=a then some o else H b
theorem af{o:HO}:upd H a o a=some o:=by unfold upd;rw[JX rfl]
theorem ai{o:HO}(h:b≠a):upd H a o b=H b:=by unfold upd;rw[JU h]
theorem fN{o u:HO}:upd (upd H a o) a u=upd H a u:=by
 funext b;unfold upd;split<;>rfl
theorem bH{o u:HO}(h:H a=some o)(h':H b=some u)(d:o≠u):a≠b:=by
 intro e;subst e;rw[h]at h';exact d (Ku h')
theorem aH{o:HO}(h:H a=some o)(h':H b=none):a≠b:=by
 intro e;subst e;rw[h]at h';cases h'
mutual
inductive rQ (H:Hp):V->KD->Prop
 |int (i:Int):rQ H (.int i) (.int i)
 |str (x:Str):rQ H (.str x) (.str x)
 |tup {a:Addr} {xs:List V} {k:KD}:(H a=some (.tup xs)\/∃o,H a=some (.frz o (.tup xs)))->nY H xs k->rQ H (.ref a) k
inductive nY (H:Hp):List V->KD->Prop
 |nil:nY H [] .nil
 |cons {v:V} {vs:List V} {a r:KD}:rQ H v a->nY H vs r->nY H (v::vs) (.cons a r)
end
theorem rQ.shape{v:V}{k:KD}(x:rQ H v k):(∃i,v = .int i/\k = .int i)\/(∃y,v = .str y/\k = .str y)\/∃a xs,v = .ref a/\(H a=some (.tup xs)\/∃o,H a=some (.frz o (.tup xs)))/\nY H xs k:=by
 cases x with
 |int i=>exact .inl ⟨i,rfl,rfl⟩
 |str x=>exact .inr (.inl ⟨x,rfl,rfl⟩)
 |tup h q=>exact .inr (.inr ⟨_,_,rfl,h,q⟩)
theorem rQ.mono2(ht:∀b xs,H b=some (.tup xs)->H' b=some (.tup xs))(hf:∀b ob xs,H b=some (.frz ob (.tup xs))->H' b=some (.frz ob (.tup xs))):∀k:KD,(∀vs,nY H vs k->nY H' vs k)/\∀v,rQ H v k->rQ H' v k:=by
 have tup:∀k:KD,(∀vs,nY H vs k->nY H' vs k)->∀v,rQ H v k->rQ H' v k:=by
  intro k it v x;rcases x.shape with⟨i,rfl,rfl⟩|⟨y,rfl,rfl⟩|⟨a,xs,rfl,h,q⟩
  .exact .int i
  .exact .str y
  .refine .tup (xs:=xs) ?_ (it _ q);rcases h with h|⟨o,h⟩
   .exact .inl (ht _ _ h)
   .exact .inr ⟨o,hf _ _ _ h⟩
 intro k;induction k with
 |int i=>have it:∀vs,nY H vs (.int i)->nY H' vs (.int i):=fun _ z=>nomatch z;exact⟨it,tup _ it⟩
 |str i=>have it:∀vs,nY H vs (.str i)->nY H' vs (.str i):=fun _ z=>nomatch z;exact⟨it,tup _ it⟩
 |nil =>
  have it:∀vs,nY H vs .nil->nY H' vs .nil:=fun _ z=>by cases z;exact .nil
  exact⟨it,tup _ it⟩
 |cons a r iha ihr =>
  have it:∀vs,nY H vs (.cons a r)->nY H' vs (.cons a r):=fun _ z=>by
   cases z with
   |cons h1 h2=>exact .cons (iha.2 _ h1) (ihr.1 _ h2)
  exact⟨it,tup _ it⟩
noncomputable def vA(H:Hp)(b:Addr)(k:KD):Prop:=rQ H (.ref b) k/\k.dep<=6
theorem vA.mono{k:KD}(x:vA H b k)(ht:∀b xs,H b=some (.tup xs)->H' b=some (.tup xs))(hf:∀b ob xs,H b=some (.frz ob (.tup xs))->H' b=some (.frz ob (.tup xs))):vA H' b k:=⟨(rQ.mono2 ht hf k).2 _ x.1,x.2⟩
section
variable (P:Program)(w:World)
noncomputable def d0(H:Hp)(h:Heap)(a:Addr):HO->Prop
 |.lst xs=>xs.length<=sizeLine/\∃(its:List Value) (n:Nat),aU xs its/\h.get? a=some {cls:=.type "list",data:=.seq its.toArray n}
 |.tup xs=>xs.length<=sizeLine/\∃its:List Value,aU xs its/\IsTup h a its.toArray
 |.dK kvs=>kvs.length<=sizeLine/\(a==sysModules)=false/\∃vs,KV kvs vs/\h.DictOf (gq P w) a vs
 |.dT kvs=>kvs.length<=sizeLine/\(a==sysModules)=false/\∃xs:List (KD×Addr×Value),
   Paired (fun(p:KD×V) (q:KD×Addr×Value)=>p.1=q.1/\vA H q.2.1 p.1/\RelV p.2 q.2.2) kvs xs /\
   ∃o es ep,h.get? a=some o/\o.ExactDict/\o.data = .dict es ep/\es.toList=xs.map (entryOfKey (j2 P w))/\(xs.map (·.1)).Nodup
 |.set S n=>h.SetOf (intKind P w) a S n
 |.ins C dx fs=>H dx=some (.own a)/\fs.length<=1000/\dx≠a/\h.get? a=some (PySem.W.instObj C dx) /\
   ∃mA,h.Ns1 dx mA/\(∀f,kg (fs.lookup f) (mA f))/\PySem.Within mA (fs.map (·.1))
 |.own _=>∃o,h.get? a=some o
 |.xd fs=>∃mA,h.Ns1 a mA/\∀f,kg (fs.lookup f) (mA f)
 |.rng lo hi=>∃t u v,h.get? a=some {cls:=.type "range",data:=.fields #[.int lo t,.int hi u,.int 1 v]}
 |.frz o u=>h.get? a=some o/\d0 H h a u
 |.tbl ps=>h.get? a=some {cls:=.none,data:=.fields ps}
 |.met f x=>h.get? a=some (PySem.W.methodObj (.ref f) (.ref x))
 |.ext φ=>φ h/\(∃o,h.get? a=some o)/\∀h1 h2:Heap,φ h1->(∀o,h1.get? a=some o->h2.get? a=some o)->φ h2
noncomputable def lB(H:Hp)(h:Heap):Prop:=∀a o,H a=some o->d0 P w H h a o
end
section
variable{w:World}{o:HO}
theorem d0.lt(x:d0 P w H h a o):a<h.objs.size:=by
 cases o with
 |lst xs=>obtain⟨_,_,_,_,e⟩:=x;exact Kc e
 |tup xs=>obtain⟨_,_,_,p⟩:=x;exact p.lt
 |dK kvs=>obtain⟨_,_,_,_,o,_,_,e,_⟩:=x;exact Kc e
 |dT kvs=>obtain⟨_,_,_,_,o,_,_,e,_⟩:=x;exact Kc e
 |set S n=>obtain⟨o,_,_,_,e,_⟩:=x;exact Kc e
 |ins C dx fs=>obtain⟨_,_,_,e,_⟩:=x;exact Kc e
 |own y=>obtain⟨_,e⟩:=x;exact Kc e
 |xd fs=>obtain⟨_,⟨_,_,_,e,_⟩,_⟩:=x;exact Kc e
 |rng lo hi=>obtain⟨_,_,_,e⟩:=x;exact Kc e
 |frz ob u=>obtain⟨e,_⟩:=x;exact Kc e
 |tbl ps=>exact Kc (show h.get? a=some _ from x)
 |met f y=>exact Kc (show h.get? a=some _ from x)
 |ext φ=>obtain⟨_,⟨_,e⟩,_⟩:=x;exact Kc e
theorem Paired.mapP{α β:Type}{F G:α->β->Prop}:∀{l₁:List α} {l₂:List β},Paired F l₁ l₂->(∀a b,F a b->G a b)->Paired G l₁ l₂
 |_,_,.nil,_=>.nil
 |_,_,.cons r t,f=>.cons (f _ _ r) (Paired.mapP t f)
theorem d0.stay(x:d0 P w H h a o)(k:∀b u,(b=a\/H b=some (.own a))->h.get? b=some u->h'.get? b=some u)(ho:∀b,H b=some (.own a)->H' b=some (.own a))(ht:∀b xs,H b=some (.tup xs)->H' b=some (.tup xs))(hf:∀b ob xs,H b=some (.frz ob (.tup xs))->H' b=some (.frz ob (.tup xs))):d0 P w H' h' a o:=by
 induction o with
 |lst xs=>obtain⟨z,its,n,r,e⟩:=x;exact⟨z,its,n,r,k _ _ (.inl rfl) e⟩
 |tup xs=>obtain⟨z,its,r,ob,e,c⟩:=x;exact⟨z,its,r,ob,k _ _ (.inl rfl) e,c⟩
 |dK kvs=>obtain⟨z,y,vs,r,ob,es,ep,e,c⟩:=x;exact⟨z,y,vs,r,ob,es,ep,k _ _ (.inl rfl) e,c⟩
 |dT kvs =>
  obtain⟨z,y,xs,r,ob,es,ep,e,c⟩:=x;exact⟨z,y,xs,Paired.mapP r fun p q z=>⟨z.1,z.2.1.mono ht hf,z.2.2⟩,ob,es,ep,k _ _ (.inl rfl) e,c⟩
 |set S n=>obtain⟨ob,es,ep,t,e,c⟩:=x;exact⟨ob,es,ep,t,k _ _ (.inl rfl) e,c⟩
 |ins C dx fs =>
  obtain⟨d,z,ne,e,mA,⟨od,es,ep,e2,c⟩,r⟩:=x;exact⟨ho _ d,z,ne,k _ _ (.inl rfl) e,mA,⟨od,es,ep,k _ _ (.inr d) e2,c⟩,r⟩
 |own y=>obtain⟨ob,e⟩:=x;exact⟨ob,k _ _ (.inl rfl) e⟩
 |xd fs=>obtain⟨mA,⟨od,es,ep,e,c⟩,r⟩:=x;exact⟨mA,⟨od,es,ep,k _ _ (.inl rfl) e,c⟩,r⟩
 |rng lo hi=>obtain⟨t,u,v,e⟩:=x;exact⟨t,u,v,k _ _ (.inl rfl) e⟩
 |frz ob u ih=>obtain⟨e,q⟩:=x;exact⟨k _ _ (.inl rfl) e,ih q⟩
 |tbl ps =>
  have e:h.get? a=some {cls:=.none,data:=.fields ps}:=x;show h'.get? a=some {cls:=.none,data:=.fields ps};exact k a _ (.inl rfl) e
 |met f y =>
  have e:h.get? a=some (PySem.W.methodObj (.ref f) (.ref y)):=x;show h'.get? a=some (PySem.W.methodObj (.ref f) (.ref y));exact k a _ (.inl rfl) e
 |ext φ=>obtain⟨p,⟨o,e⟩,st⟩:=x;exact⟨st _ _ p fun o q=>k _ _ (.inl rfl) q,⟨o,k _ _ (.inl rfl) e⟩,st⟩
theorem lB.lt(x:lB P w H h)(e:H a=some o):a<h.objs.size:=(x a o e).lt
theorem lB.fresh(x:lB P w H h)(e:h.objs.size<=a):H a=none:=by
 cases q:H a with
 |none=>rfl
 |some u=>exact absurd (Ki (x.lt q) e) (KL _)
theorem lB.kept(x:lB P w H h)(k:∀b u,h.get? b=some u->h'.get? b=some u):lB P w H h':=fun a o e =>
 (x a o e).stay (fun b u _ q=>k b u q) (fun _ q=>q) (fun _ _ q=>q) fun _ _ _ q=>q
theorem lB.laid(x:lB P w H h)(k:∀b u,h.get? b=some u->h'.get? b=some u)(hp:h.objs.size<=a)(new:d0 P w (upd H a o) h' a o):lB P w (upd H a o) h':=fun b u e=>by
 have hn:=x.fresh hp;by_cases hb:b=a
 .subst hb;rw[af]at e;cases e;exact new
 .rw[ai hb]at e;exact(x b u e).stay (fun c v _ q=>k c v q) (fun c q=>by rw[ai (aH q hn)];exact q) (fun c xs q=>by rw[ai (aH q hn)];exact q) fun c ob xs q=>by rw[ai (aH q hn)];exact q
end
noncomputable def Rd(H:Hp)(a:Addr)(u:HO):Prop:=H a=some u\/∃o,H a=some (.frz o u)
theorem Rd.ok{w:World}{u:HO}(r:Rd H a u)(x:lB P w H h):d0 P w H h a u:=by
 rcases r with r|⟨o,r⟩
 .exact x a u r
 .obtain⟨_,q⟩:=x a _ r;exact q
noncomputable def EY:Option HO->Prop
 |some (.lst _)=>True
 |some (.dK _)=>True
 |some (.dT _)=>True
 |some (.set _ _)=>True
 |some (.ins _ _ _)=>True
 |some (.ext _)=>True
 |_=>False
section
variable{w:World}{x e:Addr}{o':HO}
theorem lB.write(ok:lB P w H h)(mu:EY (H x))(he:e=x\/H e=some (.own x))(k:∀b u,b≠e->h.get? b=some u->h'.get? b=some u)(heo:∃u,h'.get? e=some u)(new:d0 P w (upd H x o') h' x o'):lB P w (upd H x o') h':=fun b u q=>by
 have nown:∀c y,H c=some (.own y)->c≠x:=fun c y r z=>by subst z;rw[r]at mu;exact mu
 have ntup:∀c xs,H c=some (.tup xs)->c≠x:=fun c xs r z=>by subst z;rw[r]at mu;exact mu
 have nfrz:∀c ob xs,H c=some (.frz ob (.tup xs))->c≠x:=fun c ob xs r z=>by subst z;rw[r]at mu;exact mu
 by_cases hb:b=x
 .subst hb;rw[af]at q;cases q;exact new
 .rw[ai hb]at q;by_cases hbe:b=e
  .have q':H b=some (.own x):=by
    rcases he with z|z
    .exact absurd (hbe.trans z) hb
    .rw[hbe];exact z
   rw[q]at q';cases q';obtain⟨v,hv⟩:=heo;exact⟨v,by rw[hbe];exact hv⟩
  .refine(ok b u q).stay (fun c v hc r=>k c v ?_ r) (fun c r=>by rw[ai (nown c b r)];exact r) (fun c xs r=>by rw[ai (ntup c xs r)];exact r) fun c ob xs r=>by rw[ai (nfrz c ob xs r)];exact r
   rcases hc with rfl|hc
   .exact hbe
   .rintro rfl;rcases he with z|z
    .exact nown c b hc z
    .rw[hc]at z;cases z;exact hb rfl
end
structure Un (fs ex:List Addr) (H H':Hp) (h h':Heap):Prop where
 keep:∀b o,h.get? b=some o->H b=none->b∉fs->b∉ex->h'.get? b=some o
 slot:∀b o,h.get? b=some o->H b=none->b∈fs->b∉ex->∃sl,h'.get? b=some {o with slots:=sl}
 free:∀b o,h.get? b=some o->H b=none->b∉ex->H' b=none
 there:∀b o,h.get? b=some o->b∉ex->∃o',h'.get? b=some o'
 tups:∀b xs,H b=some (.tup xs)->H' b=some (.tup xs)
 frzs:∀b o u,H b=some (.frz o u)->H' b=some (.frz o u)
 tbls:∀b ps,H b=some (.tbl ps)->∃more,H' b=some (.tbl (ps++more))
section
variable{fs fs' ex ex':List Addr}{H2:Hp}{h1:Heap}{x e:Addr}{o:HO}
theorem Un.any(u:Un fs ex H H1 h h1){ob:Obj}(q:h.get? b=some ob)(n:H b=none)(hx:b∉ex):∃sl,h1.get? b=some {ob with slots:=sl}:=by
 by_cases hb:b∈fs
 .exact u.slot b ob q n hb hx
 .exact⟨ob.slots,u.keep b ob q n hb hx⟩
theorem Un.kept(k:∀b u,h.get? b=some u->h'.get? b=some u):Un fs ex H H h h' :=
 ⟨fun b ob q _ _ _=>k b ob q,fun b ob q _ _ _=>⟨ob.slots,k b ob q⟩,fun _ _ _ n _=>n,fun b ob q _=>⟨ob,k b ob q⟩,fun _ _ q=>q,fun _ _ _ q=>q,fun _ ps q=>⟨#[],by rw[q];simp⟩⟩
theorem Un.refl:Un fs ex H H h h:=Un.kept fun _ _ q=>q
theorem Un.laid(k:∀b u,h.get? b=some u->h'.get? b=some u)(hp:h.objs.size<=a)(hn:H a=none):Un fs ex H (upd H a o) h h' where
 keep:=fun b u q _ _ _=>k b u q
 slot:=fun b u q _ _ _=>⟨u.slots,k b u q⟩
 free:=fun b u q n _=>by rw[ai (Kv (Ki (Kc q) hp))];exact n
 there:=fun b u q _=>⟨u,k b u q⟩
 tups:=fun b xs q=>by rw[ai (aH q hn)];exact q
 frzs:=fun b u xs q=>by rw[ai (aH q hn)];exact q
 tbls:=fun b ps q=>⟨#[],by rw[ai (aH q hn),q];simp⟩
theorem Un.write(mu:EY (H x))(he:e=x\/H e=some (.own x))(k:∀b u,b≠e->h.get? b=some u->h'.get? b=some u)(heo:∃u,h'.get? e=some u):Un fs ex H (upd H x o) h h':=by
 have hx:∀b,H b=none->b≠x:=fun b n z=>by subst z;rw[n]at mu;exact mu
 have hb:∀b,H b=none->b≠e:=fun b n z=>by
  subst z;rcases he with r|r
  .exact hx b n r
  .rw[n]at r;cases r
 have hm:∀b u,H b=some u->¬EY (some u)->b≠x:=fun b u q nm z=>by subst z;rw[q]at mu;exact nm mu
 refine⟨fun b u q n _ _=>k b u (hb b n) q,fun b u q n _ _=>⟨u.slots,k b u (hb b n) q⟩,fun b u q n _=>by rw[ai (hx b n)];exact n,fun b u q _=>?_,
  fun b xs q=>by rw[ai (hm b _ q fun z=>z)];exact q,fun b u xs q=>by rw[ai (hm b _ q fun z=>z)];exact q,fun b ps q=>⟨#[],by rw[ai (hm b _ q fun z=>z),q];simp⟩⟩
 by_cases hbe:b=e
 .subst hbe;exact heo
 .exact⟨u,k b u hbe q⟩
end
noncomputable def EM(g h:Heap)(L:Addr):List (Addr×Obj):=(List.range h.objs.size).filterMap fun a=>if a=L\/(g.get? a).isSome=true then none else(h.get? a).map fun o=>(a,o)
noncomputable def rest(g h:Heap)(L d:Addr):List (Addr×Obj):=(EM g h L).filter fun p=>decide (p.1≠d)
structure Mod (K:Lq) (mg:Str->Option Value) (base:Heap):Prop where
 kin:K.In base
 glob:base.Ns mainGlobals mg
 blt:∃mb,base.Ns builtinsNs mb/\∀x:Str,x≠"__name__"->mb x=bootBuiltins x
 nolimit:base.NoLimit
structure Cx where
 prog:Program
 w:World
 K:Lq
 mg:Str->Option Value
 base:Heap
 A:Around
 N:List Str
 s_0:Shared
 H_0:Hp
 env:Env
 outer:List Env
 stack:List Env
 ex:List Addr
 fn:Str->Bool
 calm:Bool
 pn:List (Addr×Obj)
 xe:Value->Shared->Prop
variable{X:Cx}
noncomputable def g6(l:List Env):List Addr:=l.filterMap (·.frame)
noncomputable abbrev Cx.fs(X:Cx):List Addr:=g6 X.outer
noncomputable def Hc(sc:Scope)(x:Str):Prop:=sc.names.lookup x=some .local\/sc.names.lookup x=some .cell\/sc.names.lookup x=some .free
noncomputable def Loc(sc:Scope)(x:Str):Prop:=sc.names.lookup x=some .local\/sc.names.lookup x=some .cell
noncomputable def Look(env:Env)(h:Heap)(m:Str->Option Value)(x:Str)(u:Value):Prop :=
 (env.kindOf x=some .local/\m x=some u)\/((env.kindOf x=some .cell\/env.kindOf x=some .free)/\∃c,env.cells.lookup x=some c/\h.IsCell c (some u))
structure Cx.Ok (X:Cx):Prop where
 mod:Mod X.K X.mg X.base
 kind:X.env.scope.kind = .function
 glob:X.env.globals=mainGlobals
 blt:X.env.builtins=builtinsNs
 above:X.s_0.heap.objs.size<=X.env.locals
 inj:∀x y c,X.env.cells.lookup x=some c->X.env.cells.lookup y=some c->x=y
 has:∀x,(X.env.kindOf x=some .cell\/X.env.kindOf x=some .free)->∃c,X.env.cells.lookup x=some c
 cab:∀x c,X.fn x=true->X.env.cells.lookup x=some c->X.s_0.heap.objs.size<=c
 hd:X.calm=true->X.A.handled=none
 frames:X.A.frames=some X.stack
 stk:X.stack=X.outer\/(X.stack=X.env::X.outer/\X.env.frame=some X.env.locals)
 exf:∀b∈X.ex,b≠X.env.locals/\∀x c,X.env.cells.lookup x=some c->c≠b
 bs:∀b o,X.base.get? b=some o->X.s_0.heap.get? b=some o/\(X.H_0 b=none\/∃u,X.H_0 b=some (.frz o u))
 bsz:X.base.objs.size<=X.s_0.heap.objs.size
 noex:∀b o,X.base.get? b=some o->b∉X.ex
 exfs:∀b∈X.ex,b∉X.fs
 funs:X.s_0.heap.FunFrames X.base X.outer
 frf:∀b∈X.fs,X.H_0 b=none
structure Inv (X:Cx) (pins:List (Addr×Obj)) (σ:List (Option V)) (H:Hp) (s:Shared):Prop where
 ok:X.Ok
 os:s.os=X.s_0.os
 bare:AllBare s.gens
 base:Un X.fs X.ex X.H_0 H X.s_0.heap s.heap
 loc:∃m,s.heap.Ns X.env.locals m/\∀(i:Nat) (x:Str) (v:V),X.N[i]?=some x->σ[i]?=some (some v)->Hc X.env.scope x->∃u,RelV v u/\Look X.env s.heap m x u
 cell:∀x c,X.env.cells.lookup x=some c->∃v,s.heap.IsCell c v
 free:H X.env.locals=none
 freeC:∀x c,X.env.cells.lookup x=some c->H c=none
 pin:∀p∈X.pn++pins,s.heap.get? p.1=some p.2/\H p.1=none/\p.1≠X.env.locals/\p.1∉X.fs/\∀v,p.2.data ≠ .cell v
 hok:lB X.prog X.w H s.heap
 len:σ.length=X.N.length
section
variable{σ:List (Option V)}
theorem Cx.Ok.nofr(ok:X.Ok)(e:X.base.get? b=some o):b∉X.fs:=fun hb=>by
 have:=(ok.funs.mem hb).1;rw[e]at this;cases this
theorem Inv.bs(I:Inv X pins σ H s):∀b o,X.base.get? b=some o->s.heap.get? b=some o/\(H b=none\/∃u,H b=some (.frz o u)):=fun b o e=>by
 obtain⟨h1,h2|⟨u,h2⟩⟩:=I.ok.bs b o e
 .exact⟨I.base.keep b o h1 h2 (I.ok.nofr e) (I.ok.noex b o e),.inl (I.base.free b o h1 h2 (I.ok.noex b o e))⟩
 .have h3:=I.base.frzs b o u h2;exact⟨(I.hok b _ h3).1,.inr ⟨u,h3⟩⟩
theorem Inv.bk(I:Inv X pins σ H s):∀b o,X.base.get? b=some o->s.heap.get? b=some o:=fun b o e=>(I.bs b o e).1
theorem Inv.mod(I:Inv X pins σ H s):Mod X.K X.mg X.base:=I.ok.mod
theorem Inv.kIn(I:Inv X pins σ H s):X.K.In s.heap:=I.ok.mod.kin.keeps I.bk
theorem Inv.nolimit(I:Inv X pins σ H s):s.heap.NoLimit:=I.ok.mod.nolimit.keeps I.bk
theorem Inv.fr(I:Inv X pins σ H s):∃m,Fr X.base X.env.locals s.heap m :=
 let ⟨m,hn,_⟩:=I.loc
 ⟨m,hn,I.bk,KH I.ok.bsz I.ok.above⟩
theorem Inv.lt(I:Inv X pins σ H s):X.env.locals<s.heap.objs.size:=let ⟨_,hn,_⟩:=I.loc;hn.lt
theorem Inv.sz(I:Inv X pins σ H s):X.s_0.heap.objs.size<=s.heap.objs.size:=KH I.ok.above (Nat.le_of_lt I.lt)
theorem Inv.nofs(I:Inv X pins σ H s)(h:s.heap.objs.size<=a):a∉X.fs:=fun hb=>by
 obtain⟨_,o,ho,_⟩:=I.ok.funs.mem hb;exact absurd (Ki (Kc ho) (KH I.sz h)) (KL _)
theorem Inv.cne(I:Inv X pins σ H s):∀x c,X.env.cells.lookup x=some c->c≠X.env.locals:=fun x c e z=>by
 obtain⟨v,o,ho,hd⟩:=I.cell x c e;obtain⟨m,⟨o',es,ep,ho',hd',_⟩,_⟩:=I.loc;rw[z,ho']at ho;cases ho;rw[hd']at hd;cases hd
theorem Inv.funs(I:Inv X pins σ H s):s.heap.FunFrames X.base X.outer:=by
 have all:∀(l:List Env),(∀b∈g6 l,b∈X.fs)->X.s_0.heap.FunFrames X.base l->s.heap.FunFrames X.base l:=by
  intro l;induction l with
  |nil=>intro _ _;trivial
  |cons env r ih =>
   intro hs hl;obtain⟨hk,⟨L,o,hf,hn,ho,hd⟩,hr⟩:=hl;have hL:L∈X.fs:=hs L (by unfold g6;rw[KC,hf];exact J8);obtain⟨sl,e⟩:=I.base.slot L o ho (I.ok.frf L hL) hL fun z=>I.ok.exfs L z hL;exact⟨hk,⟨L,_,hf,hn,e,hd⟩,ih (fun b hb=>hs b (by unfold g6;rw[KC,hf];exact J0 _ hb)) hr⟩
 exact all X.outer (fun _ hb=>hb) I.ok.funs
theorem Inv.stack(I:Inv X pins σ H s):s.heap.FunFrames X.base X.stack:=by
 rcases I.ok.stk with e|⟨e,hf⟩
 .rw[e];exact I.funs
 .rw[e];obtain⟨m,hn,_⟩:=I.loc;refine .cons (by rw[I.ok.kind];decide) hf hn ?_ I.funs;exact Heap.get?_none_of_le (KH I.ok.bsz I.ok.above)
theorem Inv.stkSub(I:Inv X pins σ H s):∀b∈g6 X.stack,b∈X.env.locals::X.fs:=fun b hb=>by
 rcases I.ok.stk with e|⟨e,hf⟩
 .rw[e]at hb;exact J0 _ hb
 .rw[e]at hb;unfold g6 at hb;rw[KC,hf]at hb;exact hb
theorem Inv.stkFree(I:Inv X pins σ H s):∀b∈g6 X.stack,H b=none:=fun b hb=>by
 rcases Kg.mp (I.stkSub b hb) with e|hb
 .rw[e];exact I.free
 .obtain⟨_,o,ho,_⟩:=I.ok.funs.mem hb;exact I.base.free b o ho (I.ok.frf b hb) fun z=>I.ok.exfs b z hb
theorem Inv.step(I:Inv X pins σ H s)(hch:∀b∈ch,(b∈X.ex\/X.s_0.heap.objs.size<=b)/\b≠X.env.locals/\(∀x c,X.env.cells.lookup x=some c->c≠b)/\∀p∈X.pn++pins,p.1≠b)(keep:∀b o,b≠X.env.locals->b∉X.fs->b∉ch->s.heap.get? b=some o->H b=none->h'.get? b=some o)(slot:∀b o,b≠X.env.locals->b∈X.fs->b∉ch->s.heap.get? b=some o->H b=none->∃sl,h'.get? b=some {o with slots:=sl})(free:∀b o,b∉ch->s.heap.get? b=some o->H b=none->H' b=none)(there:∀b o,b∉ch->s.heap.get? b=some o->∃o',h'.get? b=some o')(tups:∀b xs,H b=some (.tup xs)->H' b=some (.tup xs))(frzs:∀b o u,H b=some (.frz o u)->H' b=some (.frz o u))(tbls:∀b ps,H b=some (.tbl ps)->∃more,H' b=some (.tbl (ps++more)))(ns:∀m,s.heap.Ns X.env.locals m->h'.Ns X.env.locals m)(hok:lB X.prog X.w H' h')(hg:AllBare g'):
  Inv X pins σ H' {s with heap:=h',gens:=g',drawn:=d',toks:=t'}:=by
 have neL:∀b o,X.s_0.heap.get? b=some o->b≠X.env.locals:=fun b o e=>Kv (Ki (Kc e) I.ok.above);have neC:∀b o,X.s_0.heap.get? b=some o->b∉X.ex->b∉ch:=fun b o e hx hb=>by
  rcases(hch b hb).1 with z|z
  .exact hx z
  .exact absurd (Ki (Kc e) z) (KL _)
 have cellK:∀x c,X.env.cells.lookup x=some c->∀v,s.heap.IsCell c v->h'.IsCell c v:=fun x c e v ⟨o,ho,hd⟩=>by
  have nch:c∉ch:=fun z=>(hch c z).2.2.1 x c e rfl;by_cases hc:c∈X.fs
  .obtain⟨sl,q⟩:=slot c o (I.cne x c e) hc nch ho (I.freeC x c e);exact⟨_,q,hd⟩
  .exact⟨o,keep c o (I.cne x c e) hc nch ho (I.freeC x c e),hd⟩
 refine⟨I.ok,I.os,hg,⟨fun b o e n hb hx=>?_,fun b o e n hb hx=>?_,fun b o e n hx=>?_,fun b o e hx=>?_,fun b xs e=>tups b xs (I.base.tups b xs e),fun b o xs e=>frzs b o xs (I.base.frzs b o xs e),fun b ps e=>?_⟩,?_,fun x c e=>?_,?_,fun x c e=>?_,fun p hp=>?_,hok,I.len⟩
 .exact keep b o (neL b o e) hb (neC b o e hx) (I.base.keep b o e n hb hx) (I.base.free b o e n hx)
 .obtain⟨sl,e1⟩:=I.base.slot b o e n hb hx;obtain⟨sl',e2⟩:=slot b _ (neL b o e) hb (neC b o e hx) e1 (I.base.free b o e n hx);exact⟨sl',e2⟩
 .obtain⟨o',e1⟩:=I.base.there b o e hx;exact free b o' (neC b o e hx) e1 (I.base.free b o e n hx)
 .obtain⟨o',e1⟩:=I.base.there b o e hx;exact there b o' (neC b o e hx) e1
 .obtain⟨m1,e1⟩:=I.base.tbls b ps e;obtain⟨m2,e2⟩:=tbls b _ e1;exact⟨m1++m2,by rw[e2,Array.append_assoc]⟩
 .obtain⟨m,hn,hl⟩:=I.loc;refine⟨m,ns m hn,fun i x v e1 e2 e3=>?_⟩;obtain⟨u,r,l⟩:=hl i x v e1 e2 e3;refine⟨u,r,?_⟩;rcases l with l|⟨k,c,e,z⟩
  .exact .inl l
  .exact .inr ⟨k,c,e,cellK x c e _ z⟩
 .obtain⟨v,z⟩:=I.cell x c e;exact⟨v,cellK x c e v z⟩
 .obtain⟨m,⟨o,_,_,ho,_⟩,_⟩:=I.loc;exact free _ o (fun z=>(hch _ z).2.1 rfl) ho I.free
 .obtain⟨v,o,ho,hd⟩:=I.cell x c e;exact free c o (fun z=>(hch c z).2.2.1 x c e rfl) ho (I.freeC x c e)
 .obtain⟨e,n,ne,nf,d⟩:=I.pin p hp;have nch:p.1∉ch:=fun z=>(hch p.1 z).2.2.2 p hp rfl;exact⟨keep p.1 p.2 ne nf nch e n,free p.1 p.2 nch e n,ne,nf,d⟩
theorem Inv.un(I:Inv X pins σ H s)(u:Un X.fs [] H H' s.heap h')(hok:lB X.prog X.w H' h'):Inv X pins σ H' {s with heap:=h',toks:=t'}:=by
 obtain⟨m,⟨o,es,ep,ho,r⟩,_⟩:=id I.loc;obtain⟨sl,hL⟩:=u.any ho I.free (by simp);exact I.step (g':=s.gens) (d':=s.drawn) (ch:=[]) (fun _ z=>nomatch z) (fun b o _ hb _ e n=>u.keep b o e n hb (by simp)) (fun b o _ hb _ e n=>u.slot b o e n hb (by simp)) (fun b o _ e n=>u.free b o e n (by simp)) (fun b o _ e=>u.there b o e (by simp)) u.tups u.frzs u.tbls (fun m' hm=>by
  obtain⟨o',es',ep',ho',r'⟩:=hm;rw[ho]at ho';cases ho';exact⟨_,es',ep',hL,r'⟩) hok I.bare
theorem Inv.call(I:Inv X pins σ H s)(u:Un (g6 X.stack) ch H H' s.heap h')(hok:lB X.prog X.w H' h')(hg:AllBare g')(hch:∀b∈ch,(b∈X.ex\/X.s_0.heap.objs.size<=b)/\b≠X.env.locals/\(∀x c,X.env.cells.lookup x=some c->c≠b)/\∀p∈X.pn++pins,p.1≠b):
  Inv X pins σ H' {s with heap:=h',gens:=g',drawn:=d',toks:=t'}:=by
 obtain⟨m,⟨o,es,ep,ho,r⟩,_⟩:=id I.loc;obtain⟨sl,hL⟩:=u.any ho I.free fun z=>(hch _ z).2.1 rfl;exact I.step (ch:=ch) hch (fun b o hL hb hc e n=>u.keep b o e n (fun z=>(Kg.mp (I.stkSub b z)).elim hL hb) hc) (fun b o _ _ hc e n=>u.any e n hc) (fun b o hc e n=>u.free b o e n hc) (fun b o hc e=>u.there b o e hc) u.tups u.frzs u.tbls (fun m' hm=>by
  obtain⟨o',es',ep',ho',r'⟩:=hm;rw[ho]at ho';cases ho';exact⟨_,es',ep',hL,r'⟩) hok hg
theorem Inv.turned(I:Inv X pins σ H s)(k:∀b o,b≠it->s.heap.get? b=some o->h'.get? b=some o)(hn:H it=none)(hL:it≠X.env.locals)(h1:it∈X.ex\/X.s_0.heap.objs.size<=it)(h2:∀x c,X.env.cells.lookup x=some c->c≠it)(h3:∀p∈X.pn++pins,p.1≠it):Inv X pins σ H {s with heap:=h',toks:=t'}:=by
 have nit:∀b u,H b=some u->b≠it:=fun b u e z=>by rw[z,hn]at e;cases e
 refine I.step (g':=s.gens) (d':=s.drawn) (ch:=[it]) (fun b hb=>?_) (fun b o _ _ hc e _=>k b o (fun z=>hc (by simp[z])) e) (fun b o _ _ hc e _=>⟨o.slots,k b o (fun z=>hc (by simp[z])) e⟩) (fun _ _ _ _ n=>n)
  (fun b o hc e=>⟨o,k b o (fun z=>hc (by simp[z])) e⟩) (fun _ _ e=>e) (fun _ _ _ e=>e) (fun b ps e=>⟨#[],by rw[e];simp⟩) (fun m hm=>?_) (fun b u e=>?_) I.bare
 .have e:b=it:=by simpa using hb
  subst e;exact⟨h1,hL,h2,h3⟩
 .obtain⟨o,es,ep,ho,r⟩:=hm;exact⟨o,es,ep,k _ o (Ne.symm hL) ho,r⟩
 .refine(I.hok b u e).stay (fun c v hc q=>k c v ?_ q) (fun _ q=>q) (fun _ _ q=>q) fun _ _ _ q=>q;rcases hc with z|z
  .rw[z];exact nit b u e
  .exact nit c _ z
theorem Inv.tok(I:Inv X pins σ H s)(t:Nat):Inv X pins σ H {s with toks:=t}:=I.un (h':=s.heap) (t':=t) Un.refl I.hok
theorem Inv.kept(I:Inv X pins σ H s)(k:∀b u,s.heap.get? b=some u->h'.get? b=some u):Inv X pins σ H {s with heap:=h',toks:=t'}:=I.un (Un.kept k) (I.hok.kept k)
theorem Inv.laid{o:HO}(I:Inv X pins σ H s)(k:∀b u,s.heap.get? b=some u->h'.get? b=some u)(hp:s.heap.objs.size<=a)(new:d0 X.prog X.w (upd H a o) h' a o):
  Inv X pins σ (upd H a o) {s with heap:=h',toks:=t'}:=I.un (Un.laid k hp (I.hok.fresh hp)) (I.hok.laid k hp new)
theorem Inv.write{x e:Addr}{o:HO}(I:Inv X pins σ H s)(mu:EY (H x))(he:e=x\/H e=some (.own x))(k:∀b u,b≠e->s.heap.get? b=some u->h'.get? b=some u)(heo:∃u,h'.get? e=some u)(new:d0 X.prog X.w (upd H x o) h' x o):Inv X pins σ (upd H x o) {s with heap:=h',toks:=t'}:=I.un (Un.write mu he k heo) (I.hok.write mu he k heo new)
theorem Inv.weak{σ':List (Option V)}(I:Inv X pins σ H s)(hl:σ'.length=σ.length)(w:∀(i:Nat) v,σ'[i]?=some (some v)->σ[i]?=some (some v)):Inv X pins σ' H s :=
 ⟨I.ok,I.os,I.bare,I.base,let ⟨m,hn,hl'⟩:=I.loc;⟨m,hn,fun i x v e1 e2 e3=>hl' i x v e1 (w i v e2) e3⟩,I.cell,I.free,I.freeC,I.pin,I.hok,hl.trans I.len⟩
theorem Inv.pins_of{pins':List (Addr×Obj)}(I:Inv X pins σ H s)(h:∀p∈pins',s.heap.get? p.1=some p.2/\H p.1=none/\p.1≠X.env.locals/\p.1∉X.fs/\∀v,p.2.data ≠ .cell v):Inv X pins' σ H s :=
 ⟨I.ok,I.os,I.bare,I.base,I.loc,I.cell,I.free,I.freeC,fun p hp=>(Kj.mp hp).elim (fun z=>I.pin p (Kz _ z)) (h p),I.hok,I.len⟩
theorem nj{N:List Str}(hN:N.Nodup)(a:N[i]?=some x)(b:N[j]?=some x):i=j:=by
 obtain⟨h1,e1⟩:=JW.mp a;obtain⟨h2,e2⟩:=JW.mp b;exact(List.getElem_inj hN).mp (e1.trans e2.symm)
theorem sR{A:Around}{v:V}{Q:Unit->Shared->Prop}(I:Inv X pins σ H s)(hN:X.N.Nodup)(hi:X.N[i]?=some x)(hx:Loc X.env.scope x)(r:RelV v u)(h:∀s',Inv X pins (σ.set i (some v)) H s'->(∃a,Heap.SameBut a s.heap s'.heap/\(a=X.env.locals\/X.env.cells.lookup x=some a))->Q () s')(hf:X.fn x=true\/X.env.scope.names.lookup x=some .local:=by first|exact .inl rfl|exact .inr rfl|assumption):wpAny M A (storeName X.env x u) Q E s:=by
 obtain⟨m,hn,hl⟩:=id I.loc;have hcls:(X.env.scope.kind == .class||(X.env.scope.kind == .module&&X.env.locals != X.env.globals))=false:=by rw[I.ok.kind];rfl
 have hiσ:i<σ.length:=by rw[I.len];exact(JW.mp hi).1
 have cne:=I.cne;have tracked:∀{a:Addr} {h':Heap},(∃o,s.heap.get? a=some o/\H a=none)->Heap.SameBut a s.heap h'->lB X.prog X.w H h':=fun {a h'} ha hs b ob e=>by
  obtain⟨_,_,hfree⟩:=ha;refine(I.hok b ob e).stay (fun c w' hc q=>(hs.2 c ?_).trans q) (fun _ q=>q) (fun _ _ q=>q) fun _ _ _ q=>q;rintro rfl;rcases hc with rfl|hc
  .rw[hfree]at e;cases e
  .rw[hfree]at hc;cases hc
 rcases hx with hk|hk
 .refine wpAny_storeName_local hk hn (fun h' hn' hs=>?_) hcls;obtain⟨oL,_,_,hoL,_⟩:=id hn;refine h _ ⟨I.ok,I.os,I.bare,⟨fun b o e n hb hx=>?_,fun b o e n hb hx=>?_,I.base.free,fun b o e hx=>?_,I.base.tups,I.base.frzs,I.base.tbls⟩,⟨_,hn',fun j y v' e1 e2 e3=>?_⟩,fun y c e=>?_,I.free,I.freeC,fun p hp=>?_,tracked ⟨oL,hoL,I.free⟩ hs,by simpa using I.len⟩ ⟨_,hs,.inl rfl⟩
  .exact(hs.2 b (Kv (Ki (Kc e) I.ok.above))).trans (I.base.keep b o e n hb hx)
  .obtain⟨sl,e1⟩:=I.base.slot b o e n hb hx;exact⟨sl,(hs.2 b (Kv (Ki (Kc e) I.ok.above))).trans e1⟩
  .obtain⟨o',e1⟩:=I.base.there b o e hx;exact⟨o',(hs.2 b (Kv (Ki (Kc e) I.ok.above))).trans e1⟩
  .by_cases hj:j=i
   .subst hj;rw[hi]at e1;cases e1;rw[Lc hiσ]at e2;cases e2;exact⟨u,r,.inl ⟨hk,by simp⟩⟩
   .rw[Ll (Ne.symm hj)]at e2;obtain⟨u',r',q⟩:=hl j y v' e1 e2 e3;refine⟨u',r',?_⟩;rcases q with⟨k,e⟩|⟨k,c,e,z⟩
    .refine .inl ⟨k,?_⟩;have:y≠x:=fun e=>hj (nj hN e1 (e▸hi));simp[this,e]
    .exact .inr ⟨k,c,e,z.sameBut hs (cne y c e)⟩
  .obtain⟨w',z⟩:=I.cell y c e;exact⟨w',z.sameBut hs (cne y c e)⟩
  .obtain⟨e,n,ne,nf,d⟩:=I.pin p hp;exact⟨(hs.2 p.1 ne).trans e,n,ne,nf,d⟩
 .have hfn:X.fn x=true:=by
   rcases hf with z|z
   .exact z
   .rw[z]at hk;cases hk
  obtain⟨c,hc⟩:=I.ok.has x (.inl hk);obtain⟨w',z⟩:=I.cell x c hc;refine wpAny_storeName_cell I.ok.kind hk hc z (fun h' hc' hs=>?_);obtain⟨oc,hoc,hocd⟩:=id z;refine h {s with heap:=h'} ⟨I.ok,I.os,I.bare,⟨fun b o e n hb hx=>?_,fun b o e n hb hx=>?_,I.base.free,fun b o e hx=>?_,I.base.tups,I.base.frzs,I.base.tbls⟩,⟨m,hn.sameBut hs (Ne.symm (cne x c hc)),fun j y v' e1 e2 e3=>?_⟩,fun y c' e=>?_,I.free,I.freeC,fun p hp=>?_,tracked ⟨oc,hoc,I.freeC x c hc⟩ hs,by simpa using I.len⟩ ⟨c,hs,.inr hc⟩
  .exact(hs.2 b (Kv (Ki (Kc e) (I.ok.cab x c hfn hc)))).trans (I.base.keep b o e n hb hx)
  .obtain⟨sl,e1⟩:=I.base.slot b o e n hb hx;exact⟨sl,(hs.2 b (Kv (Ki (Kc e) (I.ok.cab x c hfn hc)))).trans e1⟩
  .obtain⟨o',e1⟩:=I.base.there b o e hx;exact⟨o',(hs.2 b (Kv (Ki (Kc e) (I.ok.cab x c hfn hc)))).trans e1⟩
  .by_cases hj:j=i
   .subst hj;rw[hi]at e1;cases e1;rw[Lc hiσ]at e2;cases e2;exact⟨u,r,.inr ⟨.inl hk,c,hc,hc'⟩⟩
   .rw[Ll (Ne.symm hj)]at e2;obtain⟨u',r',q⟩:=hl j y v' e1 e2 e3;refine⟨u',r',?_⟩;rcases q with q|⟨k,c',e,z'⟩
    .exact .inl q
    .refine .inr ⟨k,c',e,z'.sameBut hs ?_⟩;rintro rfl;exact hj (nj hN e1 (I.ok.inj _ _ _ e hc▸hi))
  .by_cases hcc:c'=c
   .subst hcc;exact⟨_,hc'⟩
   .obtain⟨w2,z2⟩:=I.cell y c' e;exact⟨w2,z2.sameBut hs hcc⟩
  .obtain⟨e,n,ne,nf,d⟩:=I.pin p hp;refine⟨(hs.2 p.1 ?_).trans e,n,ne,nf,d⟩;intro q;rw[q,hoc]at e;have q':oc=p.2:=Ku e;exact d w' (by rw[<-q'];exact hocd)
theorem mR{A:Around}{v:V}{Q:Unit->Shared->Prop}(I:Inv X pins σ H s)(hN:X.N.Nodup)(hi:X.N[i]?=some x)(hx:Loc X.env.scope x)(r:RelV v u)(h:∀s',Inv X pins (σ.set i (some v)) H s'->Q () s')(hf:X.fn x=true\/X.env.scope.names.lookup x=some .local:=by first|exact .inl rfl|exact .inr rfl|assumption):wpAny M A (storeName X.env x u) Q E s :=
 sR I hN hi hx r (fun s' I' _=>h s' I') hf
theorem Inv.call'(I:Inv X pins σ H s)(ho:s'.os=s.os)(u:Un (g6 X.stack) ch H H' s.heap s'.heap)(hok:lB X.prog X.w H' s'.heap)(hg:AllBare s'.gens)(hch:∀b∈ch,(b∈X.ex\/X.s_0.heap.objs.size<=b)/\b≠X.env.locals/\(∀x c,X.env.cells.lookup x=some c->c≠b)/\∀p∈X.pn++pins,p.1≠b):Inv X pins σ H' s':=by
 obtain⟨h',g',d',t',o'⟩:=s';have e:o'=s.os:=ho;subst e;exact I.call (g':=g') (t':=t') (d':=d') u hok hg hch
end
noncomputable abbrev XK:=Value->Option Addr->Hp->Prop
noncomputable abbrev St:=List (Option V)
noncomputable abbrev XS:=St->XK
variable{Eo:XS}
noncomputable abbrev VK:=V->Hp->Prop
variable{r:V->Option Int->Option Int->Hp->VK->Prop}
noncomputable abbrev TE:=St->Hp->VK->Prop
variable{ta te to tv td:TE}
noncomputable abbrev TT:=St->Hp->(Bool->Hp->Prop)->Prop
variable{tt:TT}
noncomputable abbrev TA:=St->Hp->(List V->Hp->Prop)->Prop
structure Ends where
 nx:St->Hp->Prop
 rt:VK
 bk:St->Hp->Prop:=fun _ _=>False
 ct:St->Hp->Prop:=fun _ _=>False
variable{D:Ends}
noncomputable abbrev TS:=Ends->St->Hp->Prop
inductive EP (X:Cx) (pins:List (Addr×Obj)) (σ:St) (Q:VK) (u:Value) (s':Shared):Prop
 |mk (v:V) (H':Hp) (_:Inv X pins σ H' s') (_:RelV v u) (_:Q v H')
inductive TP (X:Cx) (pins:List (Addr×Obj)) (σ:St) (Q:Bool->Hp->Prop) (b:Bool) (s':Shared):Prop
 |mk (H':Hp) (_:Inv X pins σ H' s') (_:Q b H')
inductive AP (X:Cx) (pins:List (Addr×Obj)) (σ:St) (Q:List V->Hp->Prop) (us:List Value) (s':Shared):Prop
 |mk (vs:List V) (H':Hp) (_:Inv X pins σ H' s') (_:aU vs us) (_:Q vs H')
noncomputable def SP(X:Cx)(pins:List (Addr×Obj))(D:Ends)(f:Flow)(s':Shared):Prop :=
 match f with
 |.next=>∃σ' H',Inv X pins σ' H' s'/\D.nx σ' H'
 |.brk=>∃σ' H',Inv X pins σ' H' s'/\D.bk σ' H'
 |.cont=>∃σ' H',Inv X pins σ' H' s'/\D.ct σ' H'
 |.ret u=>∃v σ' H',Inv X pins σ' H' s'/\RelV v u/\D.rt v H'
noncomputable def PE(X:Cx)(e:Expr)(t:TE):Prop :=
 ∀(pins:List (Addr×Obj)) (s:Shared) (σ:St) (H:Hp) (Q:VK),Inv X pins σ H s->t σ H Q->wpAny (model X.prog X.w) X.A (eval e X.env) (EP X pins σ Q) X.xe s
noncomputable def PT(X:Cx)(e:Expr)(t:TT):Prop :=
 ∀(pins:List (Addr×Obj)) (s:Shared) (σ:St) (H:Hp) (Q:Bool->Hp->Prop),Inv X pins σ H s->t σ H Q->wpAny (model X.prog X.w) X.A (isTrue e X.env (eval e X.env)) (TP X pins σ Q) X.xe s
noncomputable def PW(X:Cx)(e:Expr)(t:TT):Prop :=
 ∀(whole:Sem Value) (pins:List (Addr×Obj)) (s:Shared) (σ:St) (H:Hp) (Q:Bool->Hp->Prop),Inv X pins σ H s->t σ H Q->wpAny (model X.prog X.w) X.A (isTrue e X.env whole) (TP X pins σ Q) X.xe s
theorem PW.pt{t:TT}(h:PW X e t):PT X e t:=h _
noncomputable def PA(X:Cx)(es:List Expr)(t:TA):Prop :=
 ∀(pos:Pos) (pins:List (Addr×Obj)) (s:Shared) (σ:St) (H:Hp) (Q:List V->Hp->Prop),Inv X pins σ H s->t σ H Q->wpAny (model X.prog X.w) X.A (spliced (backTo pos (starEach es X.env))) (AP X pins σ Q) X.xe s
noncomputable def PS(X:Cx)(st:Stmt)(t:TS):Prop :=
 ∀(pins:List (Addr×Obj)) (s:Shared) (σ:St) (H:Hp) (D:Ends),Inv X pins σ H s->t D σ H->wpAny (model X.prog X.w) X.A (exec st X.env) (SP X pins D) X.xe s
noncomputable def sI(X:Cx)(st:List Stmt)(t:TS):Prop :=
 ∀(pins:List (Addr×Obj)) (s:Shared) (σ:St) (H:Hp) (D:Ends),Inv X pins σ H s->t D σ H->wpAny (model X.prog X.w) X.A (execs st X.env) (SP X pins D) X.xe s
theorem cO{α:Type}{t:Sem α}{Q Q':α->Shared->Prop}{A:Around}(h:wpAny M A t Q E s)(hQ:∀a s,Q a s->Q' a s):wpAny M A t Q' E s:=KR h hQ fun _ _ x=>x
section
noncomputable def uM(x:V)(P:Bool->Prop):Prop:=match x with
 |.bl k=>P k
 |_=>False
theorem j3{x:V}{P:Bool->Prop}(h:uM x P):∃k,x = .bl k/\P k:=by
 cases x with
 |bl k=>exact⟨k,rfl,h⟩
 |_=>exact False.elim h
noncomputable def Cr(x:V)(P:Int->Prop):Prop:=match x with
 |.int k=>P k
 |_=>False
theorem jm{x:V}{P:Int->Prop}(h:Cr x P):∃k,x = .int k/\P k:=by
 cases x with
 |int k=>exact⟨k,rfl,h⟩
 |_=>exact False.elim h
noncomputable def kh(x:V)(P:Addr->Prop):Prop:=match x with
 |.ref k=>P k
 |_=>False
theorem fC{x:V}{P:Addr->Prop}(h:kh x P):∃k,x = .ref k/\P k:=by
 cases x with
 |ref k=>exact⟨k,rfl,h⟩
 |_=>exact False.elim h
noncomputable def AE(x:List V)(P:Addr->Prop):Prop:=match x with
 |[y]=>kh y P
 |_=>False
theorem zz{x:List V}{P:Addr->Prop}(h:AE x P):∃k,x=[.ref k]/\P k:=by
 match x with
 |[y]=>obtain⟨k,rfl,h⟩:=fC (show kh y P from h);exact⟨k,rfl,h⟩
 |[]=>exact False.elim h
 |_::_::_=>exact False.elim h
noncomputable def GD(o:Option (Option V))(P:V->Prop):Prop:=match o with
 |some (some v)=>P v
 |_=>False
noncomputable def z8(i:Nat):TE:=fun σ H Q=>GD σ[i]? fun v=>Q v H
theorem yU{σ:St}{Q:VK}(h:z8 i σ H Q):∃v,σ[i]?=some (some v)/\Q v H:=by
 have h:GD σ[i]? fun v=>Q v H:=h;unfold GD at h;split at h
 .exact⟨_,by assumption,h⟩
 .exact False.elim h
noncomputable def tC(v:V):TE:=fun _ H Q=>Q v H
theorem Gi(hN:X.N[i]?=some x)(hv:Hc X.env.scope x)(hd:(x==("__debug__":Str))=false:=by decide)(hcd:(x==("__classdict__":Str))=false:=by decide):PE X (.Name x pos) (z8 i):=by
 intro pins s σ H Q I h;obtain⟨v,e,h⟩:=yU h;obtain⟨m,hn,hl⟩:=I.loc;obtain⟨u,r,l⟩:=hl i x v hN e hv;have fin:EP X pins σ Q u s:=⟨v,H,I,r,h⟩
 rcases l with⟨hk,hm⟩|⟨hk,c,hc,hcell⟩
 .exact wpAny_Name (wpAny_loadName_local I.ok.kind hk hn hm fin) hd
 .rcases hk with hk|hk
  .exact wpAny_Name (wpAny_loadName_cell I.ok.kind hk hc hcell fin) hd
  .exact wpAny_Name (wpAny_loadName_free I.ok.kind hk hc hcell fin hcd) hd
theorem ak{i j pos}:PE X (.Constant (.int i) j pos) (tC (.int i)):=fun _ _ _ H _ I h=>wpAny_Constant_int ⟨.int i,H,I.tok _,⟨_,rfl⟩,h⟩
theorem mY{b j pos}:PE X (.Constant (.bool b) j pos) (tC (.bl b)):=fun _ _ _ H _ I h=>Constant_bool ⟨.bl b,H,I,rfl,h⟩
theorem gK{j pos}:PE X (.Constant .none j pos) (tC .non):=fun _ _ _ H _ I h=>Constant_none ⟨.non,H,I,rfl,h⟩
theorem fB{x j pos}:PE X (.Constant (.str x) j pos) (tC (.str x)):=fun _ _ _ H _ I h=>Calls.Constant_str ⟨.str x,H,I.tok _,⟨_,rfl⟩,h⟩
noncomputable def Gl(X:Cx)(x:Str):Prop:=X.env.kindOf x=some .globalImplicit
theorem iH{σ:St}(I:Inv X pins σ H s)(hg:Gl X x)(hm:X.mg x=some u)(h:Q u s)(hd:(x==("__debug__":Str))=false:=by decide):wpAny (model X.prog X.w) X.A (eval (.Name x pos) X.env) Q E s :=
 Calls.Name_function_global I.ok.kind hg (Calls.loadGlobal_global (by rw[I.ok.glob];exact I.mod.glob.keeps I.bk) hm h) hd
theorem kW{σ:St}(I:Inv X pins σ H s)(hg:Gl X x)(hm:X.mg x=none)(hv:bootBuiltins x=some u)(h:Q u s)(hn:x≠"__name__":=by decide)(hd:(x==("__debug__":Str))=false:=by decide):wpAny (model X.prog X.w) X.A (eval (.Name x pos) X.env) Q E s:=by
 obtain⟨mb,h1,h2⟩:=I.mod.blt;exact Calls.Name_function_global I.ok.kind hg (Calls.loadGlobal_builtin (by rw[I.ok.glob];exact I.mod.glob.keeps I.bk) hm (by rw[I.ok.blt];exact h1.keeps I.bk) ((h2 x hn).trans hv) h) hd
theorem iD{v:V}(hg:Gl X x)(hm:X.mg x=some u)(r:RelV v u)(hd:(x==("__debug__":Str))=false:=by decide):PE X (.Name x pos) (tC v) :=
 fun _ _ _ H _ I h=>iH I hg hm ⟨v,H,I,r,h⟩ hd
variable{a b:Expr}{tb:TE}
noncomputable def PC(X:Cx)(op:CmpOp)(a b:Expr)(t:TE):Prop :=
 ∀(pins:List (Addr×Obj)) (s:Shared) (σ:St) (H:Hp) (Q:VK),Inv X pins σ H s->t σ H Q ->
  wpAny (model X.prog X.w) X.A (eval a X.env) (fun v s₁=>wpAny (model X.prog X.w) X.A (eval b X.env) (fun u s₂=>wpAny (model X.prog X.w) X.A (compareOp op v u) (EP X pins σ Q) X.xe s₂) X.xe s₁) X.xe s
theorem Cb(b:Expr)(h:op ≠ .In)(h2:op ≠ .NotIn):behindInMarks op b=false:=by
 have e1:(op==CmpOp.In)=false:=by cases op<;>first|rfl|exact absurd rfl h
 have e2:(op==CmpOp.NotIn)=false:=by cases op<;>first|rfl|exact absurd rfl h2
 cases b<;>simp[behindInMarks,e1,e2]
noncomputable def Ho(ta:TE):TE:=fun σ H Q=>ta σ H fun x H1=>Q (.bl (decide (x = .non))) H1
noncomputable def Fe(ta:TE):TE:=fun σ H Q=>ta σ H fun x H1=>Q (.bl (!decide (x = .non))) H1
theorem RelV.none_iff{x:V}(r:RelV x v):(v==Value.none)=decide (x = .non):=by
 cases x with
 |non=>cases r;rfl
 |bl _=>cases r;rfl
 |int _=>obtain⟨t,rfl⟩:=r;rfl
 |str _=>obtain⟨t,rfl⟩:=r;rfl
 |byt _=>obtain⟨t,rfl⟩:=r;rfl
 |flt _=>obtain⟨t,rfl⟩:=r;rfl
 |ref _=>cases r;rfl
 |ty _=>cases r;rfl
theorem um{j pos'}(ha:PE X a ta):PC X .Is a (.Constant .none j pos') (Ho ta):=by
 intro pins s σ H Q I h;refine cO (ha pins s σ H _ I h) fun v s1 ⟨x,H1,I1,r1,q1⟩=>?_;exact Constant_none (is_none_gen ⟨.bl _,H1,I1,by rw[r1.none_iff];rfl,q1⟩)
theorem zp{j pos'}(ha:PE X a ta):PC X .IsNot a (.Constant .none j pos') (Fe ta):=by
 intro pins s σ H Q I h;refine cO (ha pins s σ H _ I h) fun v s1 ⟨x,H1,I1,r1,q1⟩=>?_;exact Constant_none (isnot_none_gen ⟨.bl _,H1,I1,by rw[r1.none_iff];rfl,q1⟩)
noncomputable def tB(t:TE):TT:=fun σ H Q=>t σ H fun x H1=>uM x fun c=>Q c H1
theorem ie{t:TE}(h:PC X op a b t)(h1:behindInMarks op b=false:=by first|exact Cb _ (by decide) (by decide)|rfl):PT X (.Compare a [op] [b] pos) (tB t):=by
 intro pins s σ H Q I hw;refine wpAny_isTrue_Compare1 (cO (h pins s σ H _ I hw) fun v s1 h1=>cO h1 fun u s2 h2=>cO h2 fun c s3 ⟨x,H1,I1,r1,q1⟩=>?_) h1;obtain⟨d,rfl,q⟩:=j3 q1;cases r1;exact wpAny_truthy_bool ⟨H1,I1,q⟩
theorem jU{t:TE}(h:PE X e t)(he:∀whole,isTrue e X.env whole=(do let v <-whole;standAt e.pos;holding [v] (truthy v)):=by intro _;rfl):PT X e (tB t):=by
 intro pins s σ H Q I hw;refine isTrue_plain (cO (h pins s σ H _ I hw) fun v s1 ⟨x,H1,I1,r1,q1⟩=>?_) (he _);obtain⟨d,rfl,q⟩:=j3 q1;cases r1;exact wpAny_truthy_bool ⟨H1,I1,q⟩
variable{tA tB':TT}{rest:List Expr}
noncomputable def Ht(t u:TT):TT:=fun σ H Q=>t σ H fun c H1=>if c=true then u σ H1 Q else Q false H1
noncomputable def Ju(t u:TT):TT:=fun σ H Q=>t σ H fun c H1=>if c=true then Q true H1 else u σ H1 Q
noncomputable def Hk(t:TT):TT:=fun σ H Q=>t σ H fun c H1=>Q (!c) H1
theorem iC(ha:PT X a tA):PW X (.BoolOp .And [a] pos) tA:=by
 intro wh pins s σ H Q I h;refine isTrue_and (cO (ha pins s σ H Q I h) fun c s1 e=>?_);cases c with
 |true=>exact isTrue_and_nil e
 |false=>exact e
theorem kx(ha:PT X a tA):PW X (.BoolOp .Or [a] pos) tA:=by
 intro wh pins s σ H Q I h;refine isTrue_or (cO (ha pins s σ H Q I h) fun c s1 e=>?_);cases c with
 |false=>exact isTrue_or_nil e
 |true=>exact e
theorem jT(ha:PT X a tA)(hb:PW X (.BoolOp .And (b::rest) pos) tB'):PW X (.BoolOp .And (a::b::rest) pos) (Ht tA tB'):=by
 intro wh pins s σ H Q I h;refine isTrue_and (cO (ha pins s σ H _ I h) fun c s1 ⟨H1,I1,q1⟩=>?_);cases c with
 |true=>exact hb wh pins s1 σ H1 Q I1 q1
 |false=>exact⟨H1,I1,q1⟩
theorem o5(ha:PT X a tA)(hb:PW X (.BoolOp .Or (b::rest) pos) tB'):PW X (.BoolOp .Or (a::b::rest) pos) (Ju tA tB'):=by
 intro wh pins s σ H Q I h;refine isTrue_or (cO (ha pins s σ H _ I h) fun c s1 ⟨H1,I1,q1⟩=>?_);cases c with
 |true=>exact⟨H1,I1,q1⟩
 |false=>exact hb wh pins s1 σ H1 Q I1 q1
theorem jV(ha:PT X a tA):PT X (.UnaryOp .Not a pos) (Hk tA):=by
 intro pins s σ H Q I h;exact isTrue_not (cO (ha pins s σ H (fun c H1=>Q (!c) H1) I h) fun c s1 ⟨H1,I1,q1⟩=>⟨H1,I1,q1⟩)
noncomputable def Fk(ta tb:TE):TE:=fun σ H Q=>ta σ H fun x H1=>uM x fun c=>if c=true then tb σ H1 Q else Q (.bl false) H1
noncomputable def Hi(ta tb:TE):TE:=fun σ H Q=>ta σ H fun x H1=>uM x fun c=>if c=true then Q (.bl true) H1 else tb σ H1 Q
noncomputable def Hj(ta:TE):TE:=fun σ H Q=>ta σ H fun x H1=>uM x fun c=>Q (.bl (!c)) H1
theorem yf{op}{t:TE}(h:PE X a t):PE X (.BoolOp op [a] pos) t:=fun pins s σ H Q I hw=>BoolOp_one (h pins s σ H Q I hw)
theorem B1(ha:PE X a ta)(hb:PE X (.BoolOp .And (b::rest) pos) tb):PE X (.BoolOp .And (a::b::rest) pos) (Fk ta tb):=by
 intro pins s σ H Q I h;refine BoolOp_and (cO (ha pins s σ H _ I h) fun v s1 ⟨x,H1,I1,r1,q1⟩=>?_);obtain⟨c,rfl,q1⟩:=j3 q1;cases r1;refine wpAny_truthy_bool ?_;cases c with
 |true=>exact hb pins s1 σ H1 Q I1 q1
 |false=>exact⟨.bl false,H1,I1,rfl,q1⟩
theorem Fw(ha:PE X a ta)(hb:PE X (.BoolOp .Or (b::rest) pos) tb):PE X (.BoolOp .Or (a::b::rest) pos) (Hi ta tb):=by
 intro pins s σ H Q I h;refine BoolOp_or (cO (ha pins s σ H _ I h) fun v s1 ⟨x,H1,I1,r1,q1⟩=>?_);obtain⟨c,rfl,q1⟩:=j3 q1;cases r1;refine wpAny_truthy_bool ?_;cases c with
 |false=>exact hb pins s1 σ H1 Q I1 q1
 |true=>exact⟨.bl true,H1,I1,rfl,q1⟩
noncomputable def Jv(t:TT)(ta tb:TE):TE:=fun σ H Q=>t σ H fun c H1=>if c=true then ta σ H1 Q else tb σ H1 Q
theorem iO(hc:PT X c tA)(ha:PE X a ta)(hb:PE X b tb):PE X (.IfExp c a b pos) (Jv tA ta tb):=by
 intro pins s σ H Q I h;refine wpAny_IfExp (cO (hc pins s σ H _ I h) fun d s1 ⟨H1,I1,q1⟩=>?_);cases d with
 |true=>exact ha pins s1 σ H1 Q I1 q1
 |false=>exact hb pins s1 σ H1 Q I1 q1
end
noncomputable def aY(K:Lq)(H:Hp)(a:Addr)(xs:List V):Prop :=
 Rd H a (.lst xs) \/
  ∃(o:Obj) (its:Array Value) (n:Nat),K.lookup a=some o/\o.cls = .type "list"/\o.dict=none/\o.data = .seq its n/\its.size<=sizeLine/\aU xs its.toList
noncomputable def gG(K:Lq)(H:Hp)(a:Addr)(xs:List V):Prop :=
 Rd H a (.tup xs) \/
  ∃(o:Obj) (its:Array Value) (n:Nat),K.lookup a=some o/\o.cls = .type "tuple"/\o.data = .seq its n/\its.size<=sizeLine/\aU xs its.toList
noncomputable def IS:Value->Option V
 |.none=>some .non
 |.bool b=>some (.bl b)
 |.int i _=>some (.int i)
 |.str x _=>some (.str x)
 |.bytes b _=>some (.byt b)
 |.float b _=>some (.flt b)
 |.ref a=>some (.ref a)
 |.type n=>some (.ty n)
 |_=>none
theorem RelV.abs{x:V}(r:RelV x u):IS u=some x:=by
 cases x with
 |non=>cases r;rfl
 |bl _=>cases r;rfl
 |int _=>obtain⟨t,rfl⟩:=r;rfl
 |str _=>obtain⟨t,rfl⟩:=r;rfl
 |byt _=>obtain⟨t,rfl⟩:=r;rfl
 |flt _=>obtain⟨t,rfl⟩:=r;rfl
 |ref _=>cases r;rfl
 |ty _=>cases r;rfl
theorem RelV.inj{x:V}(r:RelV x u)(q:RelV y u):x=y:=Ku (r.abs.symm.trans q.abs)
theorem aU.inj:∀{xs ys:List V} {us:List Value},aU xs us->aU ys us->xs=ys
 |_,_,_,.nil,.nil=>rfl
 |_,_,_,.cons r t,.cons r' t'=>by rw[r.inj r',aU.inj t t']
section
variable{σ:St}
theorem aY.of{K:Lq}(h:H a=some (.lst xs)):aY K H a xs:=.inl (.inl h)
theorem gG.of{K:Lq}(h:H a=some (.tup xs)):gG K H a xs:=.inl (.inl h)
theorem Inv.list(I:Inv X pins σ H s)(h:aY X.K H a xs):∃its:List Value,aU xs its/\PlainL s.heap a its.toArray/\xs.length<=sizeLine:=by
 rcases h with h|⟨o,its,n,hk,hc,hd,hs,hz,r⟩
 .obtain⟨z,its,n,r,e⟩:=h.ok I.hok;exact⟨its,r,⟨_,n,e,rfl,rfl,rfl⟩,z⟩
 .refine⟨its.toList,r,⟨o,n,I.kIn a o hk,hc,hd,by simpa using hs⟩,?_⟩;have e:=r.length;simp only[Lr]at e;lia
theorem Inv.tuple(I:Inv X pins σ H s)(h:gG X.K H a xs):∃its:List Value,aU xs its/\IsTup s.heap a its.toArray/\xs.length<=sizeLine:=by
 rcases h with h|⟨o,its,n,hk,hc,hs,hz,r⟩
 .obtain⟨z,its,r,p⟩:=h.ok I.hok;exact⟨its,r,p,z⟩
 .refine⟨its.toList,r,⟨o,I.kIn a o hk,hc,n,by simpa using hs⟩,?_⟩;have e:=r.length;simp only[Lr]at e;lia
theorem Inv.list_inj(I:Inv X pins σ H s)(h:aY X.K H a xs)(h':aY X.K H a ys):xs=ys:=by
 obtain⟨its,r,⟨o,n,e,_,_,d⟩,_⟩:=I.list h;obtain⟨its',r',⟨o',n',e',_,_,d'⟩,_⟩:=I.list h';rw[e]at e';cases e';rw[d]at d';injection d' with d1 _
 have:its=its':=by simpa using congrArg Array.toList d1
 subst this;exact r.inj r'
theorem Inv.tuple_inj(I:Inv X pins σ H s)(h:gG X.K H a xs)(h':gG X.K H a ys):xs=ys:=by
 obtain⟨its,r,⟨o,e,_,n,d⟩,_⟩:=I.tuple h;obtain⟨its',r',⟨o',e',_,n',d'⟩,_⟩:=I.tuple h';rw[e]at e';cases e';rw[d]at d';injection d' with d1 _
 have:its=its':=by simpa using congrArg Array.toList d1
 subst this;exact r.inj r'
end
noncomputable abbrev Cx.wish(X:Cx)(E:Value->Shared->Prop):Cx:={X with xe:=E}
theorem Cx.Ok.wish(ok:X.Ok)(E:Value->Shared->Prop):(X.wish E).Ok :=
 ⟨ok.mod,ok.kind,ok.glob,ok.blt,ok.above,ok.inj,ok.has,ok.cab,ok.hd,ok.frames,ok.stk,ok.exf,ok.bs,ok.bsz,ok.noex,ok.exfs,ok.funs,ok.frf⟩
section
variable{σ:St}
theorem Inv.wish(I:Inv X pins σ H s)(E:Value->Shared->Prop):Inv (X.wish E) pins σ H s:=⟨I.ok.wish E,I.os,I.bare,I.base,I.loc,I.cell,I.free,I.freeC,I.pin,I.hok,I.len⟩
end
section
variable{rest:List Stmt}{t u:TS}
noncomputable def Ff:TS:=fun D σ H=>D.nx σ H
noncomputable def Bb(t u:TS):TS:=fun D σ H=>t {D with nx:=u D} σ H
theorem aB:sI X [] Ff:=fun _ _ σ H _ I h=>wpAny_execs_nil ⟨σ,H,I,h⟩
theorem ae(h1:PS X st t)(h2:sI X rest u):sI X (st::rest) (Bb t u):=by
 intro pins s σ H D I h;refine wpAny_execs_cons (cO (h1 pins s σ H {D with nx:=u D} I h) fun f s1 q=>?_);cases f with
 |next =>
  obtain⟨σ',H',I',q⟩:=q;exact h2 pins s1 σ' H' D I' q
 |ret v=>exact q
 |brk=>exact q
 |cont=>exact q
theorem ah(h1:PS X st t):sI X [st] t:=by
 intro pins s σ H D I h;refine wpAny_execs_cons (cO (h1 pins s σ H D I h) fun f s1 q=>?_);cases f with
 |next=>exact wpAny_execs_nil q
 |ret v=>exact q
 |brk=>exact q
 |cont=>exact q
noncomputable def FR:TS:=fun D σ H=>D.bk σ H
theorem Inv.quiet{σ:St}(I:Inv X pins σ H s):interactive X.env=false:=by simp[interactive,I.ok.kind]
noncomputable def Fh(te:TE):TS:=fun D σ H=>te σ H fun _ H1=>D.nx σ H1
theorem aM(he:PE X e te)(hs:swapsWith e none pos.line X.env=pure false:=by rfl):PS X (.Expr e pos) (Fh te):=by
 intro pins s σ H D I h;exact wpAny_Expr_any (cO (he pins s σ H _ I h) fun v s1 ⟨x,H1,I1,r1,q1⟩=>⟨σ,H1,I1,q1⟩) I.quiet hs
noncomputable def Hh(te:TE):TS:=fun D σ H=>te σ H D.rt
theorem ay(he:PE X e te):PS X (.Return (some e) pos) (Hh te):=by
 intro pins s σ H D I h;exact wpAny_Return_some (cO (he pins s σ H _ I h) fun v s1 ⟨x,H1,I1,r1,q1⟩=>⟨x,σ,H1,I1,r1,q1⟩)
noncomputable def Fb:TS:=fun D _ H=>D.rt .non H
theorem D5:PS X (.Return none pos) Fb:=fun _ _ σ H _ I h=>wpAny_Return_none ⟨.non,σ,H,I,rfl,h⟩
noncomputable def Hq(c:TT)(t u:TS):TS:=fun D σ H=>c σ H fun b H1=>if b=true then t D σ H1 else u D σ H1
theorem aR{a b:List Stmt}{tc:TT}(hc:PT X c tc)(ha:sI X a t)(hb:sI X b u):PS X (.If c a b pos) (Hq tc t u):=by
 intro pins s σ H D I h;refine wpAny_If (cO (hc pins s σ H _ I h) fun d s1 ⟨H1,I1,q1⟩=>?_);cases d with
 |true=>exact ha pins s1 σ H1 D I1 q1
 |false=>exact hb pins s1 σ H1 D I1 q1
noncomputable def FQ:TS:=fun _ _ _=>False
end
noncomputable abbrev TG:=V->St->Hp->(St->Hp->Prop)->Prop
variable{g:TG}
noncomputable abbrev G0:=List V->St->Hp->(St->Hp->Prop)->Prop
noncomputable def PG(X:Cx)(target:Expr)(t:TG):Prop :=
 ∀(pins:List (Addr×Obj)) (s:Shared) (σ:St) (H:Hp) (v:V) (u:Value) (Q:St->Hp->Prop),Inv X pins σ H s->RelV v u->t v σ H Q ->
  wpAny (model X.prog X.w) X.A (assign target X.env u) (fun _ s'=>∃σ' H',Inv X pins σ' H' s'/\Q σ' H') X.xe s
noncomputable def IB(X:Cx)(ts:List Expr)(t:G0):Prop :=
 ∀(pins:List (Addr×Obj)) (s:Shared) (σ:St) (H:Hp) (vs:List V) (us:List Value) (Q:St->Hp->Prop),Inv X pins σ H s->aU vs us->t vs σ H Q ->
  wpAny (model X.prog X.w) X.A (assignInOrder ((assignEach ts X.env).map (·.2)) us) (fun _ s'=>∃σ' H',Inv X pins σ' H' s'/\Q σ' H') X.xe s
noncomputable abbrev EO:=V->V->V->Hp->(Hp->Prop)->Prop
noncomputable def Il(X:Cx)(t:EO):Prop :=
 ∀(pins:List (Addr×Obj)) (s:Shared) (σ:St) (H:Hp) (o i v:V) (ov iv u:Value) (Q:Hp->Prop),Inv X pins σ H s->RelV o ov->RelV i iv->RelV v u->t o i v H Q ->
  wpAny (model X.prog X.w) X.A (setItem ov iv u) (fun _ s'=>∃H',Inv X pins σ H' s'/\Q H') X.xe s
noncomputable abbrev Hd:=V->V->Hp->VK->Prop
noncomputable def Iz(X:Cx)(op:Operator)(t:Hd):Prop :=
 ∀(pins:List (Addr×Obj)) (s:Shared) (σ:St) (H:Hp) (x y:V) (v u:Value) (Q:VK),Inv X pins σ H s->RelV x v->RelV y u->t x y H Q ->
  wpAny (model X.prog X.w) X.A (inplaceOp op v u) (EP X pins σ Q) X.xe s
section
noncomputable def mh(i:Nat):TG:=fun v σ H Q=>Q (σ.set i (some v)) H
theorem D6(hN:X.N.Nodup)(hi:X.N[i]?=some x)(hx:Loc X.env.scope x)(hf:X.fn x=true\/X.env.scope.names.lookup x=some .local:=by first|exact .inl rfl|exact .inr rfl|assumption):PG X (.Name x pos) (mh i):=by
 intro pins s σ H v u Q I r h;exact wpAny_assign_Name (mR I hN hi hx r (fun s' I'=>⟨_,H,I',h⟩) hf)
noncomputable def HZ:G0:=fun vs σ H Q=>vs=[]/\Q σ H
noncomputable def CG(t:TG)(u:G0):G0:=fun vs σ H Q=>∃v r,vs=v::r/\t v σ H fun σ' H'=>u r σ' H' Q
theorem zo:IB X [] HZ:=by
 intro pins s σ H vs us Q I r h;obtain⟨e,h⟩:=h;subst e;cases r;exact assignInOrder_nil ⟨σ,H,I,h⟩
theorem mW{es:List Expr}{t:TG}{u:G0}(h1:PG X e t)(h2:IB X es u)(hs:(assignEach (e::es) X.env).map (·.2)=assign e X.env::(assignEach es X.env).map (·.2):=by rfl):IB X (e::es) (CG t u):=by
 intro pins s σ H vs us Q I r h;obtain⟨v,vr,e1,h⟩:=h;subst e1;cases r with
 |cons r rr =>
  rw[hs];refine assignInOrder_cons (cO (h1 pins s σ H _ _ _ I r h) fun _ s1 ⟨σ1,H1,I1,q1⟩=>?_);exact h2 pins s1 σ1 H1 _ _ Q I1 rr q1
noncomputable def HX(K:Lq)(n:Nat)(t:G0):TG:=fun v σ H Q=>∃a xs,v = .ref a/\gG K H a xs/\xs.length=n/\t xs σ H Q
theorem BR{es:List Expr}{t:G0}(hc:X.calm=true)(h:IB X es t)(hn:(assignEach es X.env).length=n:=by rfl)(hst:(assignEach es X.env).findIdx? (·.1)=none:=by rfl):PG X (.Tuple es k pos) (HX X.K n t):=by
 intro pins s σ H v u Q I r hw;obtain⟨a,xs,e1,hq,hl,hw⟩:=hw;subst e1;cases r;obtain⟨its,rv,ht,hz⟩:=I.tuple hq;refine assign_Tuple_tuple (I.ok.hd hc) ht (by simp[hn,<-hl,rv.length]) hst fun h' hx=>?_;have I1:Inv X pins σ H {s with heap:=h'}:=I.kept (t':=s.toks) fun b o e=>hx b o (Kv (Kc e)) e;exact h pins _ σ H xs _ Q I1 (by simpa using rv) hw
noncomputable def HY(to ti:TE)(t:EO):TG:=fun v σ H Q=>to σ H fun o H1=>ti σ H1 fun i H2=>t o i v H2 fun H3=>Q σ H3
theorem BS{o i:Expr}{ti:TE}{t:EO}(ho:PE X o to)(hi:PE X i ti)(hs:Il X t)(ha:∀v,assign (.Subscript o i pos) X.env v=(do
   let ov <-holding [v] (eval o X.env);let iv <-holding [v,ov] (eval i X.env)
   standAt pos
   holding [v,ov,iv] (setItem ov iv v)
   release [v,ov,iv] []):=by intro _;rfl):PG X (.Subscript o i pos) (HY to ti t):=by
 intro pins s σ H v u Q I r h;rw[ha];refine JR (KU (cO (ho pins s σ H _ I h) fun ov s1 ⟨x,H1,I1,r1,q1⟩=>?_));refine JR (KU (cO (hi pins s1 σ H1 _ I1 q1) fun iv s2 ⟨y,H2,I2,r2,q2⟩=>?_));refine JR (wpAny_standAt (JR (KU (cO (hs pins s2 σ H2 x y v ov iv u _ I2 r1 r2 r q2) fun _ s3 ⟨H3,I3,q3⟩=>?_))));exact wpAny_release ⟨σ,H3,I3,q3⟩
noncomputable def Bg(te:TE)(g:TG):TS:=fun D σ H=>te σ H fun x H1=>g x σ H1 D.nx
theorem BN(he:PE X e te)(hg:PG X tg g)(hs:swapsWithSole [tg] e pos.line X.env=pure false:=by rfl)(hw:swappedStores [tg] e X.env=pure none:=by rfl)(h1:(assignEach [tg] X.env).map (·.2)=[assign tg X.env]:=by rfl):PS X (.Assign [tg] e pos) (Bg te g):=by
 intro pins s σ H D I h;refine wpAny_Assign_stores (cO (he pins s σ H _ I h) fun v s1 ⟨x,H1,I1,r1,q1⟩=>?_) hs hw;rw[h1];exact cO (hg pins s1 σ H1 x v _ I1 r1 q1) fun _ s2 q=>q
theorem Ge(hN:X.N.Nodup)(hi:X.N[i]?=some x)(hx:Loc X.env.scope x)(he:PE X e te)(hs:swapsWith e (some (.Name x pos')) pos.line X.env=pure false:=by rfl)(hf:X.fn x=true\/X.env.scope.names.lookup x=some .local:=by first|exact .inl rfl|exact .inr rfl|assumption):
  PS X (.Assign [.Name x pos'] e pos) (Bg te (mh i)):=by
 intro pins s σ H D I h;refine wpAny_Assign_Name (cO (he pins s σ H _ I h) fun v s1 ⟨y,H1,I1,r1,q1⟩=>?_) hs;exact mR I1 hN hi hx r1 (fun s2 I2=>⟨_,H1,I2,q1⟩) hf
noncomputable def FS(i:Nat)(te:TE)(ti:Hd):TS:=fun D σ H=>GD σ[i]? fun x=>te σ H fun y H1=>ti x y H1 fun z H2=>D.nx (σ.set i (some z)) H2
theorem Gf{op:Operator}{ti:Hd}(hN:X.N.Nodup)(hi:X.N[i]?=some x)(hx:Loc X.env.scope x)(he:PE X e te)(ho:Iz X op ti)(hf:X.fn x=true\/X.env.scope.names.lookup x=some .local:=by first|exact .inl rfl|exact .inr rfl|assumption):
  PS X (.AugAssign (.Name x pos') op e pos) (FS i te ti):=by
 intro pins s σ H D I h;obtain⟨v,e1,h⟩:=yU (i:=i) (Q:=fun x H=>te σ H fun y H1=>ti x y H1 fun z H2=>D.nx (σ.set i (some z)) H2) h;obtain⟨m,hn,hl⟩:=I.loc;have vis:Hc X.env.scope x:=by rcases hx with k|k;exact .inl k;exact .inr (.inl k)
 obtain⟨u,r,l⟩:=hl i x v hi e1 vis;refine wpAny_AugAssign_Name ?_;have go:wpAny (model X.prog X.w) X.A (eval e X.env) (fun w s₂=>wpAny (model X.prog X.w) X.A (inplaceOp op u w) (fun r s₃=>wpAny (model X.prog X.w) X.A (storeName X.env x r) (fun _=>SP X pins D .next) X.xe s₃) X.xe s₂) X.xe s:=by
  refine cO (he pins s σ H _ I h) fun w s1 ⟨y,H1,I1,r1,q1⟩=>?_;refine cO (ho pins s1 σ H1 v y u w _ I1 r r1 q1) fun z s2 ⟨zv,H2,I2,r2,q2⟩=>?_;exact mR I2 hN hi hx r2 (fun s3 I3=>⟨_,H2,I3,q2⟩) hf
 rcases l with⟨hk,hm⟩|⟨hk,c,hc,hcell⟩
 .exact wpAny_loadName_local I.ok.kind hk hn hm go
 .rcases hk with hk|hk
  .exact wpAny_loadName_cell I.ok.kind hk hc hcell go
  .rcases hx with k|k
   .have:X.env.scope.names.lookup x=some .free:=hk;rw[k]at this;cases this
   .have:X.env.scope.names.lookup x=some .free:=hk;rw[k]at this;cases this
noncomputable def Jx(f:Int->Int->Int):Hd:=fun x y H Q=>Cr x fun i=>Cr y fun j=>Q (.int (f i j)) H
theorem rg:Iz X .Add (Jx fun i j=>i+j):=by
 intro pins s σ H x y v u Q I r1 r2 h;obtain⟨i,e1,h'⟩:=jm h;obtain⟨j,e2,q⟩:=jm h';subst e1;subst e2;obtain⟨t,rfl⟩:=r1;obtain⟨t',rfl⟩:=r2;exact iadd_int ⟨.int _,H,I.tok _,⟨_,rfl⟩,q⟩
end
section
noncomputable def Ba(c:TT)(tb:TS):TS:=fun D σ H=>∃W:Nat->St->Hp->Prop,(∃m,W m σ H)/\∀m σ H,W m σ H ->
 c σ H fun b H1=>if b=true then ∃N:St->Hp->Prop,(∀σ' H',N σ' H'->∃m',m'<m/\W m' σ' H')/\tb {D with nx:=N,ct:=N,bk:=D.nx} σ H1 else D.nx σ H1
theorem hU{tc:TT}{tb:TS}(hp:PassesOwn (model X.prog X.w) X.A X.env X.xe)(hc:PT X c tc)(hb:sI X body tb):PS X (.While c body [] pos) (Ba tc tb):=by
 intro pins s σ H D I h;obtain⟨W,⟨m0,w0⟩,turn⟩:=h;refine wpAny_While (codeAny_whileLoop (fun n s'=>∃σ' H',Inv X pins σ' H' s'/\W n σ' H') ?_ m0 ⟨σ,H,I,w0⟩);rintro n s1 ⟨σ1,H1,I1,w1⟩;refine wpAny_passesOwn hp (cO (hc pins s1 σ1 H1 _ I1 (turn n σ1 H1 w1)) fun b s2 ⟨H2,I2,q2⟩=>?_);cases b with
 |true =>
  obtain⟨N,hN,q2⟩:=q2;rw[JX rfl];refine wpAny_passesOwn hp (cO (hb pins s2 σ1 H2 _ I2 q2) fun f s3 q3=>?_);cases f with
  |next =>
   obtain⟨σ3,H3,I3,n3⟩:=q3;obtain⟨m',hm,w3⟩:=hN σ3 H3 n3;exact⟨m',hm,σ3,H3,I3,w3⟩
  |cont =>
   obtain⟨σ3,H3,I3,n3⟩:=q3;obtain⟨m',hm,w3⟩:=hN σ3 H3 n3;exact⟨m',hm,σ3,H3,I3,w3⟩
  |brk=>exact q3
  |ret v=>exact q3
 |false =>
  rw[JU J9];exact wpAny_execs_nil ⟨σ1,H2,I2,q2⟩
end
structure It where
 go:Nat->Hp->Prop
 yld:Nat->Hp->V->Hp->Prop
 stop:Nat->Hp->Prop
noncomputable def mM(X:Cx)(pins:List (Addr×Obj))(H:Hp)(b:Addr):Prop :=
 H b=none/\b≠X.env.locals/\b∉X.fs/\(b∈X.ex\/X.s_0.heap.objs.size<=b)/\(∀x c,X.env.cells.lookup x=some c->c≠b)/\∀p∈X.pn++pins,p.1≠b
theorem Inv.fpOk{σ:St}(I:Inv X pins σ H s)(hb:s.heap.objs.size<=b)(hn:H' b=none):mM X pins H' b:=by
 refine⟨hn,Nat.ne_of_gt (Ki I.lt hb),I.nofs hb,.inr (KH I.sz hb),fun x c e z=>?_,fun p hp z=>?_⟩
 .obtain⟨v,q⟩:=I.cell x c e;exact absurd (Ki q.lt (by rw[z];exact hb)) (KL _)
 .exact absurd (Ki (Kc (I.pin p hp).1) (by rw[z];exact hb)) (KL _)
structure Turn (P:Program) (w:World) (K:Lq) (tg:Expr) (J:It) (fp:List Addr) (it:Addr) (tn:Nat->Heap->Prop):Prop where
 mem:it∈fp
 obj:∀i h,tn i h->∀b∈fp,∃o,h.get? b=some o/\∀v,o.data ≠ .cell v
 keep:∀i h h',tn i h->(∀b∈fp,∀o,h.get? b=some o->h'.get? b=some o)->tn i h'
 item:∀(X:Cx),X.prog=P->X.w=w->X.K=K->X.calm=true->∀(i:Nat) (pins:List (Addr×Obj)) (s:Shared) (σ:St) (H:Hp) (E:Value->Shared->Prop),Inv X pins σ H s->(∀b∈fp,mM X pins H b)->tn i s.heap->J.go i H ->
  wpAny (model P w) X.A (pyNext (.ref it)) (fun r s1=>∃u,r=some u /\
   wpAny (model P w) X.A (letOwnedTupleGo tg (.ref it) u) (fun _ s2=>∃x H',Inv X pins σ H' s2/\RelV x u/\J.yld i H x H'/\tn (i+1) s2.heap/\∀b∈fp,H' b=none) E s1) E s
 done:∀(X:Cx),X.prog=P->X.w=w->X.K=K->X.calm=true->∀(i:Nat) (pins:List (Addr×Obj)) (s:Shared) (σ:St) (H:Hp) (E:Value->Shared->Prop),Inv X pins σ H s->(∀b∈fp,mM X pins H b)->tn i s.heap->J.stop i H ->
  wpAny (model P w) X.A (pyNext (.ref it)) (fun r s1=>r=none/\Inv X pins σ H s1) E s
 self:∀(A:Around) (i:Nat) (s:Shared) (Q:Value->Shared->Prop) (E:Value->Shared->Prop),tn i s.heap->Q (.ref it) s->wpAny (model P w) A (pyIter (.ref it)) Q E s
noncomputable abbrev TI:=St->Hp->(It->Hp->Prop)->Prop
variable{wi:TI}
noncomputable def IA(X:Cx)(pins:List (Addr×Obj))(σ:St)(tg:Expr)(R:It->Hp->Prop)(itv:Value)(s2:Shared):Prop :=
 ∃(it:Addr) (fp:List Addr) (tn:Nat->Heap->Prop) (J:It) (H':Hp),itv = .ref it/\Inv X pins σ H' s2/\Turn X.prog X.w X.K tg J fp it tn/\tn 0 s2.heap/\(∀b∈fp,mM X pins H' b)/\R J H'
noncomputable def PI(X:Cx)(tg iter:Expr)(wi:TI):Prop :=
 ∀(pins:List (Addr×Obj)) (s:Shared) (σ:St) (H:Hp) (R:It->Hp->Prop),Inv X pins σ H s->wi σ H R ->
  wpAny (model X.prog X.w) X.A (eval iter X.env) (fun v s1=>wpAny (model X.prog X.w) X.A (pyIter v) (IA X pins σ tg R) X.xe s1) X.xe s
theorem o9{A:Around}{n:String}{vs:Array Value}{Q:Unit->Shared->Prop}(ho:s.heap.get? it=some o)(hc:o.cls = .type n)(hd:o.data = .fields vs)(hn:["enumerate","zip","dict_itemiterator","dict_reverseitemiterator","odict_iterator","itertools.zip_longest","itertools.pairwise"].contains n=false)(hQ:Q () s):wpAny M A (letOwnedTupleGo tg (.ref it) u) Q E s:=by
 unfold letOwnedTupleGo;cases tg<;>first
  |exact JV hQ
  |(cases u<;>first
    |exact JV hQ
    |(refine JR (wpAny_load ho ?_);rw[hc,hd];show wpAny M A (if (["enumerate","zip","dict_itemiterator","dict_reverseitemiterator","odict_iterator","itertools.zip_longest","itertools.pairwise"].contains n&&vs[0]?==some (rawInt _))=true then _ else _) Q E s;rw[JU (by intro h;rw[hn,Bool.false_and]at h;cases h)];exact JV hQ))
noncomputable def xE(K:Lq)(a:Addr):It :=
 ⟨fun i H=>∃xs x,aY K H a xs/\xs[i]?=some x,fun i H x H'=>H'=H/\∀xs,aY K H a xs->xs[i]?=some x,fun i H=>∃xs,aY K H a xs/\xs.length<=i⟩
noncomputable def yN(K:Lq)(a:Addr):It :=
 ⟨fun i H=>∃xs x,gG K H a xs/\xs[i]?=some x,fun i H x H'=>H'=H/\∀xs,gG K H a xs->xs[i]?=some x,fun i H=>∃xs,gG K H a xs/\xs.length<=i⟩
noncomputable def Dy(lo:Int)(n:Nat):It:=⟨fun i _=>i<n,fun i H x H'=>H'=H/\x = .int (lo+i),fun i _=>n<=i⟩
theorem sO{w:World}{K:Lq}(a it:Addr):Turn P w K tg (xE K a) [it] it (fun i h=>h.IsListIter it a i) where
 mem:=by simp
 obj:=fun i h st b hb=>by
  have e:b=it:=by simpa using hb
  subst e;obtain⟨o,e,c,d⟩:=st;exact⟨o,e,fun v z=>by rw[d]at z;cases z⟩
 keep:=fun i h h' st k=>st.at fun o e=>k it (by simp) o e
 item:=by
  intro X hP hw hK hc i pins s σ H E I hf st hg;subst hP hw hK;obtain⟨xs,x,hq,hx⟩:=hg;obtain⟨its,rv,p,hz⟩:=I.list hq;obtain⟨u,hu,ru⟩:=rv.get hx;obtain⟨f0,f1,f2,f3,f4,f5⟩:=hf it (by simp);refine wpAny_pyNext_list_item st p.isList (x:=u) (by simpa using hu) fun h' st' sb=>?_;have I1:Inv X pins σ H {s with heap:=h'}:=I.turned (t':=s.toks) (fun b o hb e=>(sb.2 b hb).trans e) f0 f1 f3 f4 f5;obtain⟨o,e,c,d⟩:=id st';exact⟨u,rfl,o9 (s:={s with heap:=h'}) e c d (by decide) ⟨x,H,I1,ru,⟨rfl,fun ys hy=>by rw[I.list_inj hy hq];exact hx⟩,st',fun b hb=>(hf b hb).1⟩⟩
 done:=by
  intro X hP hw hK hc i pins s σ H E I hf st hg;subst hP hw hK;obtain⟨xs,hq,hx⟩:=hg;obtain⟨its,rv,p,hz⟩:=I.list hq;obtain⟨f0,f1,f2,f3,f4,f5⟩:=hf it (by simp);have hl:=rv.length;exact wpAny_pyNext_list_end (I.ok.hd hc) st p.isList (by simp;lia) fun h' eb=>⟨rfl,I.turned (t':=s.toks) (fun b o hb e=>eb b o hb e) f0 f1 f3 f4 f5⟩
 self:=fun _ _ _ _ _ st h=>wpAny_pyIter_listiter st h
theorem qc{w:World}{K:Lq}(a it:Addr):Turn P w K tg (yN K a) [it] it (fun i h=>h.IsTupleIter it a i) where
 mem:=by simp
 obj:=fun i h st b hb=>by
  have e:b=it:=by simpa using hb
  subst e;obtain⟨o,e,c,d⟩:=st;exact⟨o,e,fun v z=>by rw[d]at z;cases z⟩
 keep:=fun i h h' st k=>st.at fun o e=>k it (by simp) o e
 item:=by
  intro X hP hw hK hc i pins s σ H E I hf st hg;subst hP hw hK;obtain⟨xs,x,hq,hx⟩:=hg;obtain⟨its,rv,p,hz⟩:=I.tuple hq;obtain⟨u,hu,ru⟩:=rv.get hx;obtain⟨f0,f1,f2,f3,f4,f5⟩:=hf it (by simp);refine wpAny_pyNext_tuple_item st (show s.heap.IsTuple a its.toArray from p) (x:=u) (by simpa using hu) fun h' st' sb=>?_;have I1:Inv X pins σ H {s with heap:=h'}:=I.turned (t':=s.toks) (fun b o hb e=>(sb.2 b hb).trans e) f0 f1 f3 f4 f5;obtain⟨o,e,c,d⟩:=id st';exact⟨u,rfl,o9 (s:={s with heap:=h'}) e c d (by decide) ⟨x,H,I1,ru,⟨rfl,fun ys hy=>by rw[I.tuple_inj hy hq];exact hx⟩,st',fun b hb=>(hf b hb).1⟩⟩
 done:=by
  intro X hP hw hK hc i pins s σ H E I hf st hg;subst hP hw hK;obtain⟨xs,hq,hx⟩:=hg;obtain⟨its,rv,p,hz⟩:=I.tuple hq;obtain⟨f0,f1,f2,f3,f4,f5⟩:=hf it (by simp);have hl:=rv.length;exact wpAny_pyNext_tuple_end (I.ok.hd hc) st (show s.heap.IsTuple a its.toArray from p) (by simp;lia) fun h' eb=>⟨rfl,I.turned (t':=s.toks) (fun b o hb e=>eb b o hb e) f0 f1 f3 f4 f5⟩
 self:=fun _ _ _ _ _ st h=>wpAny_pyIter_tupleiter st h
theorem xM{w:World}{K:Lq}(it:Addr)(lo:Int)(n:Nat):Turn P w K tg (Dy lo n) [it] it (fun i h=>IsRangeIter h it (lo+(i:Nat)*1) ((n:Int)-(i:Nat)) 1) where
 mem:=by simp
 obj:=fun i h st b hb=>by
  have e:b=it:=by simpa using hb
  subst e;exact⟨_,st,fun v z=>by
   have z':Data.fields _=Data.cell v:=z;cases z'⟩
 keep:=fun i h h' st k=>k it (by simp) _ st
 item:=by
  intro X hP hw hK hc i pins s σ H E I hf st hg;subst hP hw hK;obtain⟨f0,f1,f2,f3,f4,f5⟩:=hf it (by simp);have W:=Walks.range (prog:=X.prog) (w:=X.w) (I.ok.hd hc) it lo 1 n;refine W.item i s _ _ hg st fun v h' tk hv st' kk=>?_;obtain⟨t,rfl⟩:=hv;have I1:Inv X pins σ H {s with heap:=h',toks:=tk}:=I.turned (fun b o hb e=>kk b o (by simpa using hb) e) f0 f1 f3 f4 f5;refine⟨_,rfl,o9 (s:={s with heap:=h',toks:=tk}) (n:="range_iterator") st' rfl rfl (by decide) ⟨.int (lo+i),H,I1,⟨t,?_⟩,⟨rfl,rfl⟩,st',fun b hb=>(hf b hb).1⟩⟩;rw[Int.mul_one]
 done:=by
  intro X hP hw hK hc i pins s σ H E I hf st hg;subst hP hw hK;obtain⟨f0,f1,f2,f3,f4,f5⟩:=hf it (by simp);exact wpAny_pyNext_range_end (I.ok.hd hc) st (by have:n<=i:=hg;lia) fun h' eb=>⟨rfl,I.turned (t':=s.toks) (fun b o hb e=>eb b o hb e) f0 f1 f3 f4 f5⟩
 self:=fun _ _ _ _ _ st h=>wpAny_pyIter_rangeiter st h
section
noncomputable def FE(K:Lq)(tl:TE):TI:=fun σ H R=>tl σ H fun x H1=>kh x fun a=>(∃xs,aY K H1 a xs)/\R (xE K a) H1
noncomputable def HQ(K:Lq)(tl:TE):TI:=fun σ H R=>tl σ H fun x H1=>kh x fun a=>(∃xs,gG K H1 a xs)/\R (yN K a) H1
theorem cG{l:Expr}{tl:TE}(hl:PE X l tl):PI X tg l (FE X.K tl):=by
 intro pins s σ H R I h;refine cO (hl pins s σ H _ I h) fun v s1 ⟨x,H1,I1,r1,q1⟩=>?_;obtain⟨a,e,⟨xs,hq⟩,q⟩:=fC q1;subst e;cases r1;obtain⟨its,rv,p,hz⟩:=I1.list hq;refine wpAny_pyIter_list p.isList ?_;refine⟨s1.heap.objs.size,[s1.heap.objs.size],_,_,H1,rfl,I1.kept (t':=s1.toks) fun b o e=>JZ _ e,sO a _,⟨_,J6 _ rfl,rfl,rfl⟩,fun b hb=>?_,q⟩;have e:b=s1.heap.objs.size:=by simpa using hb
 subst e;exact I1.fpOk (JY _) (I1.hok.fresh (JY _))
theorem oq{l:Expr}{tl:TE}(hl:PE X l tl):PI X tg l (HQ X.K tl):=by
 intro pins s σ H R I h;refine cO (hl pins s σ H _ I h) fun v s1 ⟨x,H1,I1,r1,q1⟩=>?_;obtain⟨a,e,⟨xs,hq⟩,q⟩:=fC q1;subst e;cases r1;obtain⟨its,rv,p,hz⟩:=I1.tuple hq;refine wpAny_pyIter_tuple (show s1.heap.IsTuple a its.toArray from p) ?_;refine⟨s1.heap.objs.size,[s1.heap.objs.size],_,_,H1,rfl,I1.kept (t':=s1.toks) fun b o e=>JZ _ e,qc a _,⟨_,J6 _ rfl,rfl,rfl⟩,fun b hb=>?_,q⟩;have e:b=s1.heap.objs.size:=by simpa using hb
 subst e;exact I1.fpOk (JY _) (I1.hok.fresh (JY _))
theorem vX{σ:St}{R:It->Hp->Prop}{lo hi:Int}{t u v:Tok}{tk:Nat}(I:Inv X pins σ H s)(h1 : -(2^62)<=lo)(h2:lo<2^62)(h3 : -(2^62)<=hi)(h4:hi<2^62)(q:R (Dy lo (hi-lo).toNat) H):wpAny (model X.prog X.w) X.A (pyIter (.ref s.heap.objs.size)) (IA X pins σ tg R) E {s with heap:=s.heap.push {cls:=.type "range",data:=.fields #[.int lo t,.int hi u,.int 1 v]},toks:=tk}:=by
 refine wpAny_pyIter_range (IsRange.new ..) (small_one h1 h2 h3 h4) ?_;have I1:Inv X pins σ H {s with heap:=s.heap.push {cls:=.type "range",data:=.fields #[.int lo t,.int hi u,.int 1 v]},toks:=tk}:=I.kept fun b o e=>JZ _ e;refine⟨(s.heap.push {cls:=.type "range",data:=.fields #[.int lo t,.int hi u,.int 1 v]}).objs.size,[(s.heap.push {cls:=.type "range",data:=.fields #[.int lo t,.int hi u,.int 1 v]}).objs.size],_,_,H,rfl,
  I1.kept (t':=tk) fun b o e=>JZ _ e,xM _ lo (hi-lo).toNat,?_,fun b hb=>?_,q⟩
 .have e1:lo+((0:Nat):Int)*1=lo:=by simp
  have e2:(((hi-lo).toNat:Nat):Int)-((0:Nat):Int)=Builtin.Range.rangeSize lo hi 1:=by rw[rangeSize_one];split<;>lia
  show IsRangeIter _ _ (lo+((0:Nat):Int)*1) ((((hi-lo).toNat:Nat):Int)-((0:Nat):Int)) 1;rw[e1,e2];exact J6 _ rfl
 .have e:b=(s.heap.push {cls:=.type "range",data:=.fields #[.int lo t,.int hi u,.int 1 v]}).objs.size:=by simpa using hb
  subst e;exact I1.fpOk (JY _) (I1.hok.fresh (JY _))
noncomputable def FD(ta:TA):TI:=fun σ H R=>ta σ H fun vs H1=>∃j:Int,vs=[.int j]/\ -(2^62)<=j/\j<2^62/\R (Dy 0 j.toNat) H1
noncomputable def FC(ta:TA):TI:=fun σ H R=>ta σ H fun vs H1=>∃i j:Int,vs=[.int i,.int j]/\(-(2^62)<=i/\i<2^62/\ -(2^62)<=j/\j<2^62)/\R (Dy i (j-i).toNat) H1
theorem Ak{a:Expr}{ta:TA}(hg:Gl X "range")(hm:X.mg "range"=none)(ha:PA X [a] ta)(hs:starEach [a] X.env=[(false,eval a X.env)]:=by rfl):PI X tg (.Call (.Name "range" p) [a] [] pos) (FD ta):=by
 intro pins s σ H R I h;refine Call_ (kW I hg hm boot_range (PyProof.Rows.callWith_type1 (cO (ha pos pins s σ H _ I h) fun us s1 ⟨vs,H1,I1,r1,q1⟩=>?_) hs rfl));obtain⟨j,e,q1,q2,q⟩:=q1;subst e;cases r1 with
 |cons r rr =>
  cases rr;obtain⟨t,rfl⟩:=r;exact call_range_1 (vX I1 (by lia) (by lia) q1 q2 (by simpa using q))
theorem Aj{a b:Expr}{ta:TA}(hg:Gl X "range")(hm:X.mg "range"=none)(ha:PA X [a,b] ta)(hs:starEach [a,b] X.env=[(false,eval a X.env),(false,eval b X.env)]:=by rfl)(hs2:starEach [b] X.env=[(false,eval b X.env)]:=by rfl):
  PI X tg (.Call (.Name "range" p) [a,b] [] pos) (FC ta):=by
 intro pins s σ H R I h;refine Call_ (kW I hg hm boot_range (PyProof.Rows.callWith_type1 (cO (ha pos pins s σ H _ I h) fun us s1 ⟨vs,H1,I1,r1,q1⟩=>?_) (by rw[hs,hs2]) (by rw[hs2];rfl)));obtain⟨i,j,e,⟨q1,q2,q3,q4⟩,q⟩:=q1;subst e;cases r1 with
 |cons r rr =>
  cases rr with
  |cons r' rr =>
   cases rr;obtain⟨t,rfl⟩:=r;obtain⟨t',rfl⟩:=r';exact call_range_2 (vX I1 q1 q2 q3 q4 q)
noncomputable def Hr(wi:TI)(g:TG)(tb:TS):TS:=fun D σ H=>wi σ H fun J H1=>∃W:Nat->Nat->St->Hp->Prop,(∃m,W 0 m σ H1)/\∀i m σ H,W i m σ H ->
 (J.stop i H/\D.nx σ H)\/(J.go i H/\∃N:St->Hp->Prop,(∀σ' H',N σ' H'->∃m',m'<m/\W (i+1) m' σ' H')/\∀x H',J.yld i H x H'->g x σ H' fun σ2 H2=>tb {D with nx:=N,ct:=N,bk:=D.nx} σ2 H2)
noncomputable def qB(fp:List Addr)(h:Heap):List (Addr×Obj):=fp.filterMap fun b=>(h.get? b).map fun o=>(b,o)
theorem mE(hb:b∈fp)(e:h.get? b=some o):(b,o)∈qB fp h:=List.mem_filterMap.mpr ⟨b,hb,by rw[e];rfl⟩
theorem Av{p:Addr×Obj}(hp:p∈qB fp h):p.1∈fp/\h.get? p.1=some p.2:=by
 obtain⟨b,hb,e⟩:=List.mem_filterMap.mp hp;cases q:h.get? b with
 |none=>rw[q]at e;cases e
 |some o =>
  rw[q]at e;have e':(b,o)=p:=Ku e;subst e';exact⟨hb,q⟩
theorem Inv.pinned{σ:St}(I:Inv X pins σ H s)(hf:∀b∈fp,mM X pins H b)(ho:∀b∈fp,∃o,s.heap.get? b=some o/\∀v,o.data ≠ .cell v):Inv X (pins++qB fp s.heap) σ H s :=
 I.pins_of fun p hp=>(Kj.mp hp).elim (fun z=>I.pin p (KG _ z)) fun z=>by
  obtain⟨hb,e⟩:=Av z;obtain⟨f0,f1,f2,_⟩:=hf p.1 hb;obtain⟨o,e',d⟩:=ho p.1 hb;rw[e]at e';cases e';exact⟨e,f0,f1,f2,d⟩
theorem Inv.unpinned{pl:List (Addr×Obj)}{σ:St}(I:Inv X (pins++pl) σ H s):Inv X pins σ H s:=I.pins_of fun p hp=>I.pin p (KG _ (Kz _ hp))
theorem d3{tb:TS}(hp:PassesOwn (model X.prog X.w) X.A X.env X.xe)(hc:X.calm=true)(hi:PI X tg iter wi)(hg:PG X tg g)(hb:sI X body tb)(hs:∀x,foldedSetIterable iter X.env x=pure x:=by intro _;rfl):PS X (.For tg iter body [] pos) (Hr wi g tb):=by
 intro pins s σ H D I h;refine wpAny_For (cO (hi pins s σ H _ I h) fun v s1 h1=>cO h1 fun itv s2 h2=>?_) hs;obtain⟨it,fp,tn,J,H2,e,I2,T,st2,f2,W,⟨m0,w0⟩,turn⟩:=h2;subst e;have stat:∀{H':Hp},(∀b∈fp,H' b=none)->∀b∈fp,mM X pins H' b:=fun hn b hb=>⟨hn b hb,(f2 b hb).2⟩
 refine codeAny_forLoop_any (fun n s'=>∃i σ' H',Inv X pins σ' H' s'/\tn i s'.heap/\(∀b∈fp,H' b=none)/\W i n σ' H') ?_ m0 ⟨0,σ,H2,I2,st2,fun b hb=>(f2 b hb).1,w0⟩;rintro n s3 ⟨i,σ3,H3,I3,st3,fr3,w3⟩;rcases turn i n σ3 H3 w3 with⟨stop,qn⟩|⟨go,N,hN,step⟩
 .refine wpAny_passesOwn hp (cO (T.done X rfl rfl rfl hc i pins s3 σ3 H3 X.xe I3 (stat fr3) st3 stop) fun r s4 ⟨hr,I4⟩=>?_);subst hr;exact wpAny_execs_nil ⟨σ3,H3,I4,qn⟩
 .refine wpAny_passesOwn hp (cO (T.item X rfl rfl rfl hc i pins s3 σ3 H3 X.xe I3 (stat fr3) st3 go) fun r s4 ⟨u,hr,h4⟩=>?_);subst hr;refine wpAny_passesOwn hp (cO h4 fun _ s5 ⟨x,H5,I5,r5,y5,st5,fr5⟩=>?_);have I5':=I5.pinned (stat fr5) (T.obj _ _ st5);refine wpAny_passesOwn hp (cO (hg _ s5 σ3 H5 x u _ I5' r5 (step x H5 y5)) fun _ s6 ⟨σ6,H6,I6,q6⟩=>?_);refine wpAny_passesOwn hp (cO (hb _ s6 σ6 H6 _ I6 q6) fun f s7 q7=>?_);have again:∀{σ7:St} {H7:Hp},Inv X (pins++qB fp s5.heap) σ7 H7 s7->N σ7 H7->∃m,m<n/\∃i σ' H',Inv X pins σ' H' s7/\tn i s7.heap/\(∀b∈fp,H' b=none)/\W i m σ' H':=fun {σ7 H7} I7 n7=>by
   obtain⟨m',hm,w7⟩:=hN σ7 H7 n7;refine⟨m',hm,i+1,σ7,H7,I7.unpinned,T.keep _ _ _ st5 fun b hb o e=>(I7.pin (b,o) (KG _ (KG _ (mE hb e)))).1,fun b hb=>?_,w7⟩;obtain⟨o,e,d⟩:=T.obj _ _ st5 b hb;exact(I7.pin (b,o) (KG _ (KG _ (mE hb e)))).2.1
  cases f with
  |next=>obtain⟨σ7,H7,I7,n7⟩:=q7;exact again I7 n7
  |cont=>obtain⟨σ7,H7,I7,n7⟩:=q7;exact again I7 n7
  |brk=>obtain⟨σ7,H7,I7,q7⟩:=q7;exact⟨σ7,H7,I7.unpinned,q7⟩
  |ret v=>obtain⟨x7,σ7,H7,I7,r7,q7⟩:=q7;exact⟨x7,σ7,H7,I7.unpinned,r7,q7⟩
end
theorem CH{K:Lq}{tb:TS}{σ:St}(Pv:Nat->St->Hp->Prop)(h0:Pv 0 σ H)(hl:∀i σ H,i<=xs.length->Pv i σ H->aY K H a xs)(hs:∀i x σ H,xs[i]?=some x->Pv i σ H->g x σ H fun σ2 H2=>tb {D with nx:=Pv (i+1),ct:=Pv (i+1),bk:=D.nx} σ2 H2)(hd:∀σ H,Pv xs.length σ H->D.nx σ H):
  ∃W:Nat->Nat->St->Hp->Prop,(∃m,W 0 m σ H)/\∀i m σ H,W i m σ H ->
   ((xE K a).stop i H/\D.nx σ H)\/((xE K a).go i H/\∃N:St->Hp->Prop,(∀σ' H',N σ' H'->∃m',m'<m/\W (i+1) m' σ' H')/\∀x H',(xE K a).yld i H x H'->g x σ H' fun σ2 H2=>tb {D with nx:=N,ct:=N,bk:=D.nx} σ2 H2):=by
 refine⟨fun i m σ H=>m=xs.length-i/\i<=xs.length/\Pv i σ H,⟨xs.length,by simp,Kq _,h0⟩,?_⟩;rintro i m σ H ⟨rfl,hi,p⟩;have q:=hl i σ H hi p;by_cases hlt:i<xs.length
 .refine .inr ⟨⟨xs,xs[i],q,by simp[hlt]⟩,Pv (i+1),fun σ' H' p'=>⟨xs.length-(i+1),by lia,rfl,hlt,p'⟩,fun x H' y=>?_⟩;obtain⟨e,y⟩:=y;subst e;exact hs i x σ _ (y xs q) p
 .have e:i=xs.length:=by lia
  subst e;exact .inl ⟨⟨xs,q,JY _⟩,hd σ H p⟩
theorem Ey{K:Lq}{tb:TS}{σ:St}(Pv:Nat->St->Hp->Prop)(h0:Pv 0 σ H)(hl:∀i σ H,i<=xs.length->Pv i σ H->gG K H a xs)(hs:∀i x σ H,xs[i]?=some x->Pv i σ H->g x σ H fun σ2 H2=>tb {D with nx:=Pv (i+1),ct:=Pv (i+1),bk:=D.nx} σ2 H2)(hd:∀σ H,Pv xs.length σ H->D.nx σ H):
  ∃W:Nat->Nat->St->Hp->Prop,(∃m,W 0 m σ H)/\∀i m σ H,W i m σ H ->
   ((yN K a).stop i H/\D.nx σ H)\/((yN K a).go i H/\∃N:St->Hp->Prop,(∀σ' H',N σ' H'->∃m',m'<m/\W (i+1) m' σ' H')/\∀x H',(yN K a).yld i H x H'->g x σ H' fun σ2 H2=>tb {D with nx:=N,ct:=N,bk:=D.nx} σ2 H2):=by
 refine⟨fun i m σ H=>m=xs.length-i/\i<=xs.length/\Pv i σ H,⟨xs.length,by simp,Kq _,h0⟩,?_⟩;rintro i m σ H ⟨rfl,hi,p⟩;have q:=hl i σ H hi p;by_cases hlt:i<xs.length
 .refine .inr ⟨⟨xs,xs[i],q,by simp[hlt]⟩,Pv (i+1),fun σ' H' p'=>⟨xs.length-(i+1),by lia,rfl,hlt,p'⟩,fun x H' y=>?_⟩;obtain⟨e,y⟩:=y;subst e;exact hs i x σ _ (y xs q) p
 .have e:i=xs.length:=by lia
  subst e;exact .inl ⟨⟨xs,q,JY _⟩,hd σ H p⟩
theorem AK{lo:Int}{tb:TS}{σ:St}(Pv:Nat->St->Hp->Prop)(h0:Pv 0 σ H)(hs:∀i σ H,i<n->Pv i σ H->g (.int (lo+i)) σ H fun σ2 H2=>tb {D with nx:=Pv (i+1),ct:=Pv (i+1),bk:=D.nx} σ2 H2)(hd:∀σ H,Pv n σ H->D.nx σ H):
  ∃W:Nat->Nat->St->Hp->Prop,(∃m,W 0 m σ H)/\∀i m σ H,W i m σ H ->
   ((Dy lo n).stop i H/\D.nx σ H)\/((Dy lo n).go i H/\∃N:St->Hp->Prop,(∀σ' H',N σ' H'->∃m',m'<m/\W (i+1) m' σ' H')/\∀x H',(Dy lo n).yld i H x H'->g x σ H' fun σ2 H2=>tb {D with nx:=N,ct:=N,bk:=D.nx} σ2 H2):=by
 refine⟨fun i m σ H=>m=n-i/\i<=n/\Pv i σ H,⟨n,by simp,Kq _,h0⟩,?_⟩;rintro i m σ H ⟨rfl,hi,p⟩;by_cases hlt:i<n
 .refine .inr ⟨hlt,Pv (i+1),fun σ' H' p'=>⟨n-(i+1),by lia,rfl,hlt,p'⟩,fun x H' y=>?_⟩;obtain⟨e,y⟩:=y;subst e y;exact hs i σ _ hlt p
 .have e:i=n:=by lia
  subst e;exact .inl ⟨JY _,hd σ H p⟩
noncomputable abbrev R2:=V->V->Hp->VK->Prop
noncomputable def ki(X:Cx)(f:Value->Value->Sem Value)(r:R2):Prop :=
 ∀(pins:List (Addr×Obj)) (s:Shared) (σ:St) (H:Hp) (x y:V) (v u:Value) (Q:VK),Inv X pins σ H s->RelV x v->RelV y u->r x y H Q ->
  wpAny (model X.prog X.w) X.A (f v u) (EP X pins σ Q) X.xe s
noncomputable def Jn(X:Cx)(f:Value->Sem Value)(r:V->Hp->VK->Prop):Prop :=
 ∀(pins:List (Addr×Obj)) (s:Shared) (σ:St) (H:Hp) (x:V) (v:Value) (Q:VK),Inv X pins σ H s->RelV x v->r x H Q ->
  wpAny (model X.prog X.w) X.A (f v) (EP X pins σ Q) X.xe s
noncomputable def iq(X:Cx)(f:Value)(r:List V->Hp->VK->Prop):Prop :=
 ∀(pins:List (Addr×Obj)) (s:Shared) (σ:St) (H:Hp) (xs:List V) (us:List Value) (Q:VK),Inv X pins σ H s->aU xs us->r xs H Q ->
  wpAny (model X.prog X.w) X.A (call f us) (EP X pins σ Q) X.xe s
noncomputable def FP(r:R2)(ta tb:TE):TE:=fun σ H Q=>ta σ H fun x H1=>tb σ H1 fun y H2=>r x y H2 Q
noncomputable def Js(r:V->Hp->VK->Prop)(ta:TE):TE:=fun σ H Q=>ta σ H fun x H1=>r x H1 Q
noncomputable def rI(C:Int->Int->Prop)(g:Int->Int->V):R2:=fun x y H Q=>Cr x fun i=>Cr y fun j=>C i j/\Q (g i j) H
noncomputable def zk(g:Int->Int->V):R2:=fun x y H Q=>Cr x fun i=>Cr y fun j=>Q (g i j) H
noncomputable def rU(g:Int->V):V->Hp->VK->Prop:=fun x H Q=>Cr x fun i=>Q (g i) H
section
variable{a b:Expr}{tb tc:TE}
theorem GW(ha:PE X a ta)(hb:PE X b tb){σ:St}{R:V->V->Hp->Prop}(I:Inv X pins σ H s)(h:ta σ H fun x H1=>tb σ H1 fun y H2=>R x y H2)(hf:∀v u s2 x y H2,Inv X pins σ H2 s2->RelV x v->RelV y u->R x y H2->wpAny (model X.prog X.w) X.A (f v u) Q X.xe s2):
  wpAny (model X.prog X.w) X.A (eval a X.env) (fun v s₁=>wpAny (model X.prog X.w) X.A (eval b X.env) (fun u s₂=>wpAny (model X.prog X.w) X.A (f v u) Q X.xe s₂) X.xe s₁) X.xe s:=by
 refine cO (ha pins s σ H _ I h) fun v s1 ⟨x,H1,I1,r1,q1⟩=>?_;refine cO (hb pins s1 σ H1 _ I1 q1) fun u s2 ⟨y,H2,I2,r2,q2⟩=>?_;exact hf v u s2 x y H2 I2 r1 r2 q2
theorem aP{op:Operator}{r:R2}(ho:ki X (binaryOp op) r)(ha:PE X a ta)(hb:PE X b tb):PE X (.BinOp a op b pos) (FP r ta tb):=by
 intro pins s σ H Q I h;exact wpAny_BinOp (GW ha hb I h fun v u s2 x y H2 I2 rx ry q=>ho pins s2 σ H2 x y v u Q I2 rx ry q)
theorem mX{op:UnaryOp}{r:V->Hp->VK->Prop}(ho:Jn X (unaryOp op) r)(ha:PE X a ta):PE X (.UnaryOp op a pos) (Js r ta):=by
 intro pins s σ H Q I h;exact UnaryOp_ (cO (ha pins s σ H _ I h) fun v s1 ⟨x,H1,I1,r1,q1⟩=>ho pins s1 σ H1 x v Q I1 r1 q1)
theorem IJ{C:Int->Int->Prop}{g:Int->Int->Int}(rule:∀(i j:Int) (t u:Tok) (s:Shared) (Q:Value->Shared->Prop) (E:Value->Shared->Prop),C i j->Q (.int (g i j) s.toks) {s with toks:=s.toks+1}->wpAny (model X.prog X.w) X.A (f (.int i t) (.int j u)) Q E s):
  ki X f (rI C fun i j=>.int (g i j)):=by
 intro pins s σ H x y v u Q I rx ry h;obtain⟨i,rfl,h'⟩:=jm h;obtain⟨j,rfl,hc,q⟩:=jm h';obtain⟨t,rfl⟩:=rx;obtain⟨t',rfl⟩:=ry;exact rule i j t t' s _ _ hc ⟨.int (g i j),H,I.tok _,⟨_,rfl⟩,q⟩
theorem B6{g:Int->Int->Int}(rule:∀(i j:Int) (t u:Tok) (s:Shared) (Q:Value->Shared->Prop) (E:Value->Shared->Prop),Q (.int (g i j) s.toks) {s with toks:=s.toks+1}->wpAny (model X.prog X.w) X.A (f (.int i t) (.int j u)) Q E s):
  ki X f (zk fun i j=>.int (g i j)):=by
 intro pins s σ H x y v u Q I rx ry h;obtain⟨i,rfl,h'⟩:=jm h;obtain⟨j,rfl,q⟩:=jm h';obtain⟨t,rfl⟩:=rx;obtain⟨t',rfl⟩:=ry;exact rule i j t t' s _ _ ⟨.int (g i j),H,I.tok _,⟨_,rfl⟩,q⟩
theorem Ee{g:Int->Int->Bool}(rule:∀(i j:Int) (t u:Tok) (s:Shared) (Q:Value->Shared->Prop) (E:Value->Shared->Prop),Q (.bool (g i j)) s->wpAny (model X.prog X.w) X.A (f (.int i t) (.int j u)) Q E s):
  ki X f (zk fun i j=>.bl (g i j)):=by
 intro pins s σ H x y v u Q I rx ry h;obtain⟨i,rfl,h'⟩:=jm h;obtain⟨j,rfl,q⟩:=jm h';obtain⟨t,rfl⟩:=rx;obtain⟨t',rfl⟩:=ry;exact rule i j t t' s _ _ ⟨.bl (g i j),H,I,rfl,q⟩
noncomputable def Jr(i j:Int):Prop:=0<j/\j<1073741824
noncomputable def G7(i j:Int):Prop:=(-(2^64)<i/\i<2^64)\/(-(2^64)<j/\j<2^64)
theorem G7.ok{i j:Int}(h:G7 i j):IntMulOk i j:=by
 rcases h with⟨h1,h2⟩|⟨h1,h2⟩
 .exact .of_left (intBits_le_64 h1 h2)
 .exact .of_right (intBits_le_64 h1 h2)
theorem dX:ki X (binaryOp .Add) (zk fun i j=>.int (i+j)):=B6 fun _ _ _ _ _ _ _ q=>add_int q
theorem gj:ki X (binaryOp .Sub) (zk fun i j=>.int (i-j)):=B6 fun _ _ _ _ _ _ _ q=>sub_int q
theorem yg:ki X (binaryOp .Mult) (rI G7 fun i j=>.int (i*j)):=IJ fun _ _ _ _ _ _ _ hc q=>mul_int q hc.ok
theorem zq:ki X (binaryOp .FloorDiv) (rI Jr fun i j=>.int (i/j)):=IJ fun i j _ _ _ _ _ hc q=>by
 have h1:(0:Int)<j:=hc.1;have h2:j<1073741824:=hc.2;exact floordiv_int (by lia) (by rw[Int.fdiv_eq_ediv_of_nonneg i (by lia)];exact q) (.inl (PyProof.noPylong_small (by lia)))
theorem B5:ki X (binaryOp .Mod) (rI (fun _ j=>0<j) fun i j=>.int (i%j)):=IJ fun i j _ _ _ _ _ hc q=>by
 have h1:(0:Int)<j:=hc;exact mod_int' (by lia) (by rw[Int.fmod_eq_emod_of_nonneg i (by lia)];exact q)
theorem yj:ki X (binaryOp .BitAnd) (zk fun i j=>.int (Builtin.bitAnd i j)):=B6 fun _ _ _ _ _ _ _ q=>and_int q
theorem B4:ki X (binaryOp .BitOr) (zk fun i j=>.int (Builtin.bitOr i j)):=B6 fun _ _ _ _ _ _ _ q=>or_int q
theorem GE:ki X (inplaceOp .BitOr) (zk fun i j=>.int (Builtin.bitOr i j)):=B6 fun _ _ _ _ _ _ _ q=>ior_int q
theorem JD{f:Value->Sem Value}{g:Int->Int}(rule:∀(i:Int) (t:Tok) (s:Shared) (Q:Value->Shared->Prop) (E:Value->Shared->Prop),Q (.int (g i) s.toks) {s with toks:=s.toks+1}->wpAny (model X.prog X.w) X.A (f (.int i t)) Q E s):
  Jn X f (rU fun i=>.int (g i)):=by
 intro pins s σ H x v Q I rx h;obtain⟨i,rfl,q⟩:=jm h;obtain⟨t,rfl⟩:=rx;exact rule i t s _ _ ⟨.int (g i),H,I.tok _,⟨_,rfl⟩,q⟩
theorem jO:Jn X (unaryOp .USub) (rU fun i=>.int (-i)):=JD fun _ _ _ _ _ q=>neg_int q
end
noncomputable def Hz:V->V->Bool
 |.non,.non=>true | .non,.int _=>true | .int _,.non=>true | .non,.bl _=>true | .bl _,.non=>true | .non,.str _=>true | .str _,.non=>true
 |.int _,.int _=>true | .bl _,.bl _=>true | .str _,.str _=>true | .byt _,.byt _=>true
 |.int _,.str _=>true | .str _,.int _=>true | .bl _,.str _=>true | .str _,.bl _=>true
 |_,_=>false
noncomputable def Iu:R2:=fun x y H Q=>Hz x y=true/\Q (.bl (decide (x=y))) H
noncomputable def Ir:R2:=fun x y H Q=>Hz x y=true/\Q (.bl (!decide (x=y))) H
theorem zL{i j:Int}:decide (V.int i=V.int j)=(i==j):=by
 rw[Bool.eq_iff_iff];simp
theorem C0{i j:Bool}:decide (V.bl i=V.bl j)=(i==j):=by
 rw[Bool.eq_iff_iff];simp
theorem zK{i j:Str}:decide (V.str i=V.str j)=(i==j):=by
 rw[Bool.eq_iff_iff];simp
theorem zM{i j:Array UInt8}:decide (V.byt i=V.byt j)=(i.toList==j.toList):=by
 rw[Bool.eq_iff_iff];cases i;cases j;simp
section
variable{a b:Expr}{tb tc:TE}
theorem cN{σ:St}{Q:VK}{k k':Bool}(I:Inv X pins σ H s)(q:Q (.bl k) H)(e:k=k'):EP X pins σ Q (.bool k') s:=by
 subst e;exact⟨.bl k,H,I,rfl,q⟩
theorem HM:ki X (compareOp .Eq) Iu:=by
 intro pins s σ H x y v u Q I rx ry h;obtain⟨hs,q⟩:=h;cases x with
 |non =>
  cases rx;cases y with
  |non=>cases ry;exact PySem.EqNone.eq_none_none (cN I q (by simp))
  |bl j=>cases ry;exact PySem.EqNone.eq_none_bool (cN I q (by simp))
  |int j=>obtain⟨t',rfl⟩:=ry;exact PySem.EqNone.eq_none_int (cN I q (by simp))
  |str j=>obtain⟨t',rfl⟩:=ry;exact PySem.EqNone.eq_none_str (cN I q (by simp))
  |_=>exact absurd (show false=true from hs) J9
 |bl i =>
  cases rx;cases y with
  |non=>cases ry;exact PySem.EqNone.eq_bool_none (cN I q (by simp))
  |bl j=>cases ry;exact eq_bool (cN I q C0)
  |str j=>obtain⟨t',rfl⟩:=ry;exact PySem.EqMixed.eq_bool_str (cN I q (by simp))
  |_=>exact absurd (show false=true from hs) J9
 |int i =>
  obtain⟨t,rfl⟩:=rx;cases y with
  |non=>cases ry;exact PySem.EqNone.eq_int_none (cN I q (by simp))
  |int j=>obtain⟨t',rfl⟩:=ry;exact eq_int (cN I q zL)
  |str j=>obtain⟨t',rfl⟩:=ry;exact PySem.EqMixed.eq_int_str (cN I q (by simp))
  |_=>exact absurd (show false=true from hs) J9
 |str i =>
  obtain⟨t,rfl⟩:=rx;cases y with
  |non=>cases ry;exact PySem.EqNone.eq_str_none (cN I q (by simp))
  |bl j=>cases ry;exact PySem.EqMixed.eq_str_bool (cN I q (by simp))
  |int j=>obtain⟨t',rfl⟩:=ry;exact PySem.EqMixed.eq_str_int (cN I q (by simp))
  |str j=>obtain⟨t',rfl⟩:=ry;exact eq_str (cN I q zK)
  |_=>exact absurd (show false=true from hs) J9
 |byt i =>
  obtain⟨t,rfl⟩:=rx;cases y with
  |byt j=>obtain⟨t',rfl⟩:=ry;exact PySem.W.eq_bytes (cN I q zM)
  |_=>exact absurd (show false=true from hs) J9
 |_=>cases y<;>exact absurd (show false=true from hs) J9
theorem HI:ki X (compareOp .NotEq) Ir:=by
 intro pins s σ H x y v u Q I rx ry h;obtain⟨hs,q⟩:=h;cases x with
 |non =>
  cases rx;cases y with
  |non=>cases ry;exact PySem.EqNone.ne_none_none (cN I q (by simp))
  |bl j=>cases ry;exact PySem.EqNone.ne_none_bool (cN I q (by simp))
  |int j=>obtain⟨t',rfl⟩:=ry;exact PySem.EqNone.ne_none_int (cN I q (by simp))
  |str j=>obtain⟨t',rfl⟩:=ry;exact PySem.EqNone.ne_none_str (cN I q (by simp))
  |_=>exact absurd (show false=true from hs) J9
 |bl i =>
  cases rx;cases y with
  |non=>cases ry;exact PySem.EqNone.ne_bool_none (cN I q (by simp))
  |bl j=>cases ry;exact ne_bool (cN I q (congrArg not C0))
  |str j=>obtain⟨t',rfl⟩:=ry;exact PySem.EqMixed.ne_bool_str (cN I q (by simp))
  |_=>exact absurd (show false=true from hs) J9
 |int i =>
  obtain⟨t,rfl⟩:=rx;cases y with
  |non=>cases ry;exact PySem.EqNone.ne_int_none (cN I q (by simp))
  |int j=>obtain⟨t',rfl⟩:=ry;exact ne_int (cN I q (congrArg not zL))
  |str j=>obtain⟨t',rfl⟩:=ry;exact PySem.EqMixed.ne_int_str (cN I q (by simp))
  |_=>exact absurd (show false=true from hs) J9
 |str i =>
  obtain⟨t,rfl⟩:=rx;cases y with
  |non=>cases ry;exact PySem.EqNone.ne_str_none (cN I q (by simp))
  |bl j=>cases ry;exact PySem.EqMixed.ne_str_bool (cN I q (by simp))
  |int j=>obtain⟨t',rfl⟩:=ry;exact PySem.EqMixed.ne_str_int (cN I q (by simp))
  |str j=>obtain⟨t',rfl⟩:=ry;exact ne_str (cN I q (congrArg not zK))
  |_=>exact absurd (show false=true from hs) J9
 |byt i =>
  obtain⟨t,rfl⟩:=rx;cases y with
  |byt j=>obtain⟨t',rfl⟩:=ry;exact PySem.W.ne_bytes (cN I q (congrArg not zM))
  |_=>exact absurd (show false=true from hs) J9
 |_=>cases y<;>exact absurd (show false=true from hs) J9
theorem kD:ki X (compareOp .Lt) (zk fun i j=>.bl (decide (i<j))):=Ee fun _ _ _ _ _ _ _ q=>lt_int q
theorem fX:ki X (compareOp .LtE) (zk fun i j=>.bl (decide (i<=j))):=Ee fun _ _ _ _ _ _ _ q=>le_int q
theorem iP:ki X (compareOp .Gt) (zk fun i j=>.bl (decide (j<i))):=Ee fun _ _ _ _ _ _ _ q=>gt_int q
theorem HJ:ki X (compareOp .GtE) (zk fun i j=>.bl (decide (j<=i))):=Ee fun _ _ _ _ _ _ _ q=>ge_int q
theorem oy(b:Expr)(h:op ≠ .In:=by decide)(h2:op ≠ .NotIn:=by decide):behindInMarks op b=false:=by
 have e1:(op==CmpOp.In)=false:=by cases op<;>first|rfl|exact absurd rfl h
 have e2:(op==CmpOp.NotIn)=false:=by cases op<;>first|rfl|exact absurd rfl h2
 cases b<;>simp[behindInMarks,e1,e2]
theorem lH{r:R2}(ho:ki X (compareOp op) r)(ha:PE X a ta)(hb:PE X b tb)(hm:behindInMarks op b=false):PE X (.Compare a [op] [b] pos) (FP r ta tb):=by
 intro pins s σ H Q I h;exact wpAny_Compare1 (GW ha hb I h fun v u s2 x y H2 I2 rx ry q=>ho pins s2 σ H2 x y v u Q I2 rx ry q) hm
noncomputable def yV(t:TE):TT:=fun σ H Q=>t σ H fun x H'=>uM x fun k=>Q k H'
theorem mV{r:R2}(ho:ki X (compareOp op) r)(ha:PE X a ta)(hb:PE X b tb)(hm:behindInMarks op b=false):PT X (.Compare a [op] [b] pos) (yV (FP r ta tb)):=by
 intro pins s σ H Q I h;refine wpAny_isTrue_Compare1 (cO (ha pins s σ H _ I h) fun v s1 ⟨x,H1,I1,r1,q1⟩=>cO (hb pins s1 σ H1 _ I1 q1) fun u s2 ⟨y,H2,I2,r2,q2⟩ =>
  cO (ho pins s2 σ H2 x y v u _ I2 r1 r2 q2) fun c s3 ⟨z,H3,I3,r3,q3⟩=>?_) hm
 obtain⟨k,e,q3⟩:=j3 q3;subst e;cases r3;exact wpAny_truthy_bool ⟨H3,I3,q3⟩
noncomputable def xQ(r r':R2)(ta tb tc:TE):TE:=fun σ H Q=>ta σ H fun x H1=>tb σ H1 fun y H2=>r x y H2 fun z H3=>uM z fun k =>
 (if k=true then tc σ H3 fun w' H4=>r' y w' H4 Q else Q (.bl false) H3)
theorem qC{op':CmpOp}{r r':R2}(ho:ki X (compareOp op) r)(ho':ki X (compareOp op') r')(ha:PE X a ta)(hb:PE X b tb)(hc:PE X c tc)(hm:lastMarks [op,op'] [b,c]=false:=by with_unfolding_all rfl):PE X (.Compare a [op,op'] [b,c] pos) (xQ r r' ta tb tc):=by
 intro pins s σ H Q I h;refine Compare_chain (cO (ha pins s σ H _ I h) fun v s1 ⟨x,H1,I1,r1,q1⟩=>chain_link (cO (hb pins s1 σ H1 _ I1 q1) fun u s2 ⟨y,H2,I2,r2,q2⟩ =>
  cO (ho pins s2 σ H2 x y v u _ I2 r1 r2 q2) fun d s3 ⟨z,H3,I3,r3,q3⟩=>?_)) hm
 obtain⟨k,e,q3⟩:=j3 q3;subst e;cases r3;refine wpAny_truthy_bool ?_;cases k with
 |false=>exact ite_ff ⟨.bl false,H3,I3,rfl,q3⟩
 |true=>exact ite_tt (chain_last (cO (hc pins s3 σ H3 _ I3 q3) fun w' s4 ⟨z',H4,I4,r4,q4⟩=>ho' pins s4 σ H4 y z' u w' Q I4 r2 r4 q4))
theorem iN{op':CmpOp}{r r':R2}(ho:ki X (compareOp op) r)(ho':ki X (compareOp op') r')(ha:PE X a ta)(hb:PE X b tb)(hc:PE X c tc)(hm:lastMarks [op,op'] [b,c]=false:=by with_unfolding_all rfl):PT X (.Compare a [op,op'] [b,c] pos) (yV (xQ r r' ta tb tc)):=by
 intro pins s σ H Q I h;refine isTrue_chain (cO (ha pins s σ H _ I h) fun v s1 ⟨x,H1,I1,r1,q1⟩=>test_link (cO (hb pins s1 σ H1 _ I1 q1) fun u s2 ⟨y,H2,I2,r2,q2⟩ =>
  cO (ho pins s2 σ H2 x y v u _ I2 r1 r2 q2) fun d s3 ⟨z,H3,I3,r3,q3⟩=>?_)) hm
 obtain⟨k,e,q3⟩:=j3 q3;subst e;cases r3;refine wpAny_truthy_bool ?_;cases k with
 |false =>
  obtain⟨k',e',q'⟩:=j3 q3;cases e';exact ite_ff ⟨H3,I3,q'⟩
 |true =>
  refine ite_tt (test_last (cO (hc pins s3 σ H3 _ I3 q3) fun w' s4 ⟨z',H4,I4,r4,q4⟩=>cO (ho' pins s4 σ H4 y z' u w' _ I4 r2 r4 q4) fun d' s5 ⟨z2,H5,I5,r5,q5⟩=>?_));obtain⟨k2,e2,q5⟩:=j3 q5;subst e2;cases r5;exact wpAny_truthy_bool ⟨H5,I5,q5⟩
theorem uF:(sizeLine:Nat)<2^63:=by rw[sizeLine_eq];decide
theorem vals1{x:V}(r:aU [x] us):∃u,us=[u]/\RelV x u:=by
 cases r with
 |cons r1 r2=>cases r2;exact⟨_,rfl,r1⟩
theorem vals2{x:V}(r:aU [x,y] us):∃u w',us=[u,w']/\RelV x u/\RelV y w':=by
 cases r with
 |cons r1 r2 =>
  cases r2 with
  |cons r3 r4=>cases r4;exact⟨_,_,rfl,r1,r3⟩
theorem C8:iq X (.builtin "ord") (fun xs H Q=>∃x,xs=[.str x]/\x.length=1/\Q (.int (x.cps.getD 0 0:Nat)) H):=by
 intro pins s σ H xs us Q I r h;obtain⟨x,rfl,hz,q⟩:=h;obtain⟨u,rfl,t,rfl⟩:=vals1 r;exact ord_of_one hz ⟨.int _,H,I.tok _,⟨_,rfl⟩,q⟩
end
structure yM (h:Heap) (x dx C:Addr) (mA:Str->Option Value):Prop where
 obj:h.get? x=some (PySem.W.instObj C dx)
 ns:h.Ns1 dx mA
 ne:dx≠x
theorem AB{dx:Addr}(n:h.Ns1 dx mA):∃od,h.get? dx=some od/\∀name,PySem.W.lookIn name od=some (mA name):=by
 obtain⟨o,es,ep,ho,hd,hk,_,hm⟩:=n;refine⟨o,ho,fun name=>?_⟩;have e:=hm name;unfold nsFind findBy at e;rw[<-Array.find?_toList]at e;unfold PySem.W.lookIn;rw[hd];dsimp only;split
 .rename_i y q;rw[q]at e;exact congrArg some e
 .rename_i q;rw[q]at e;have a:es.toList.any (·.refKey)=false:=by
   rw[List.any_eq_false];intro y hy;obtain⟨z,t,hkey⟩:=hk y (Array.mem_toList_iff.mp hy);simp[DictEntry.refKey,hkey]
  have a':¬es.toList.any (·.refKey)=true:=by rw[a];exact J9
  rw[JU a'];exact congrArg some e
theorem yM.look{x dx:Addr}(I:yM h x dx C mA):∃od,PySem.W.InstAt h x (PySem.W.instObj C dx) C (some od)/\∀name,PySem.W.lookIn name od=some (mA name) :=
 let ⟨od,ho,hl⟩:=AB I.ns
 ⟨od,⟨I.obj,rfl,rfl,ho⟩,hl⟩
section
variable{prog:Program}{w:World}{A:Around}{K:Lq}{x dx f:Addr}
theorem get_map{expr:Bool}(X:K.In s.heap)(I:yM s.heap x dx C mA)(hg:PySem.W.plainGet K C name=true)(hh:PySem.W.hasDictIn K C=true)(ha:PySem.W.findIn K (.ref C) name=some none)(hv:mA name=some v)(hv':PySem.W.handedIn v=true)(h:Q v {s with toks:=s.toks+1}):
  wpAny (model prog w) A (getAttr (.ref x) name expr) Q E s:=by
 obtain⟨od,J,hl⟩:=I.look;exact PySem.W.get_value X J (PySem.W.plainGet_of hg).1 (PySem.W.findObj_own hh ha rfl (by rw[hl,hv])) hv' h
theorem CD{Q:Value×List Value->Shared->Prop}(X:K.In s.heap)(I:yM s.heap x dx C mA)(hg:PySem.W.plainGet K C name=true)(hf:PySem.W.findIn K (.ref C) name=some (some (.ref f)))(ht:PySem.W.isFn K (.ref f)=true)(hv:mA name=none)(h:Q (.ref f,[.ref x]) s):
  wpAny (model prog w) A (getMethod (.ref x) name pl) Q E s:=by
 obtain⟨od,J,hl⟩:=I.look;exact PySem.W.method_fn X J (PySem.W.plainGet_of hg).1 (PySem.W.plainGet_of hg).2 hf (beq_iff_eq.mp ht) (by show(PySem.W.lookIn name od).map (·.isSome)=some false;rw[hl,hv];rfl) h
theorem DV{ns:List Str}{Q:Unit->Shared->Prop}(X:K.In s.heap)(I:yM s.heap x dx C mA)(hs:PySem.W.findIn K (.ref C) "__setattr__"=some (some (.builtin "object.__setattr__")))(hp:PySem.W.plainOver K C=true)(ht:PySem.W.takerIn K C name=some none)(hh:PySem.W.hasDictIn K C=true)(hw:PySem.Within mA ns)(hsz:ns.length<=sizeLine)(h:∀h',yM h' x dx C (fun y=>if y=name then some v else mA y)->Heap.SameBut dx s.heap h'->Q () {s with heap:=h',toks:=s.toks+2}):
  wpAny (model prog w) A (setAttr (.ref x) name v) Q E s:=by
 obtain⟨od,J,hl⟩:=I.look;refine PySem.W.set_plain X J hs (PySem.W.osa_open (s:={s with toks:=s.toks+1}) (r:=none) X J hp ht fun b=>?_);obtain⟨cd,hc,hd'⟩:=PySem.W.any_some hh;have hx:s.heap.get? x=some ⟨.ref C,some dx,.plain,#[]⟩:=I.obj;refine JR (JV (JR (JR (wpAny_loadPart hx (JR (PySem.W.Looks.here (s:={s with toks:=s.toks+1}) (PySem.W.looks_clsIn X hc) ?_))))));rw[hd'];refine JV (a:=some dx) (JR (JV (JR ?_)));refine wpAny_nsSet1 (s:={s with toks:=s.toks+1}) I.ns fun h' hn2 hs2=>?_;obtain⟨oD,esD,epD,hoD,hdD,hcD⟩:=hn2.count (PySem.Within.cons name v hw);refine JR (wpAny_lookBehind hoD (by rw[hdD];exact pastItsLine_dict (KH hcD (by rw[JS];lia))) ?_);exact JV (h _ ⟨(hs2.2 _ (Ne.symm I.ne)).trans I.obj,hn2,I.ne⟩ hs2)
theorem Ce{vs:List Value}(X:K.In s.heap)(hm:PySem.W.makesIn K C=true)(hi:PySem.W.findIn K (.ref C) "__init__"=some (some (.ref f)))(hf:PySem.W.typeIn K (.ref f)=some (.type "function"))(h:codeAny (model prog w) (A.under (.builtin "type.__call__" ⟨.ref C::vs,kw⟩)) (.call (.ref f) ⟨.ref (s.heap.objs.size+1)::vs,kw⟩) (PySem.W.InitBack (s.heap.objs.size+1) R)
   {s with heap:=(s.heap.push PySem.W.emptyDict).push (PySem.W.instObj C s.heap.objs.size)}):
  codeAny (model prog w) A (.call (.ref C) ⟨vs,kw⟩) R s:=by
 obtain⟨hh,g,d,t,os⟩:=s;exact PySem.W.make_core (PySem.W.makes_of X hm) (PySem.W.looks_findIn X hi) (fun self=>PySem.W.bind_fn X self hf) (.inl rfl) h
end
noncomputable def fm(f:Str)(v:V):List (Str×V)->List (Str×V)
 |[]=>[(f,v)]
 |(g,x)::r=>if g=f then(g,v)::r else(g,x)::fm f v r
theorem aC(f g:Str)(v:V):∀fs:List (Str×V),(fm f v fs).lookup g=if g=f then some v else fs.lookup g
 |[]=>by
  show List.lookup g [(f,v)]=_;by_cases h:g=f
  .have hb:(g==f)=true:=beq_iff_eq.mpr h;simp only[List.lookup,hb,JX h]
  .have hb:(g==f)=false:=KP.mpr h;simp only[List.lookup,hb,JU h]
 |(k,x)::r=>by
  have ih:=aC f g v r;rw[show fm f v ((k,x)::r)=(if k=f then(k,v)::r else(k,x)::fm f v r) from rfl];by_cases hk:k=f
  .rw[JX hk];by_cases h:g=k
   .have hb:(g==k)=true:=beq_iff_eq.mpr h;simp only[List.lookup,hb,JX (h.trans hk)]
   .have hb:(g==k)=false:=KP.mpr h;simp only[List.lookup,hb,JU (fun e:g=f=>h (e.trans hk.symm))]
  .rw[JU hk];by_cases h:g=k
   .have hb:(g==k)=true:=beq_iff_eq.mpr h;simp only[List.lookup,hb,JU (fun e:g=f=>hk (h.symm.trans e))]
   .have hb:(g==k)=false:=KP.mpr h;simp only[List.lookup,hb];exact ih
theorem oF(f:Str)(v:V):∀fs:List (Str×V),f∈(fm f v fs).map (·.1)/\∀g,g∈fs.map (·.1)->g∈(fm f v fs).map (·.1)
 |[]=>⟨by simp[fm],fun g h=>by simp at h⟩
 |(k,x)::r=>by
  obtain⟨i1,i2⟩:=oF f v r;rw[show fm f v ((k,x)::r)=(if k=f then(k,v)::r else(k,x)::fm f v r) from rfl];by_cases hk:k=f
  .rw[JX hk];subst hk;exact⟨by simp,fun g h=>by simpa using h⟩
  .rw[JU hk];refine⟨?_,fun g h=>?_⟩
   .rw[J5];exact J0 _ i1
   .rw[J5]at h ⊢;rcases Kg.mp h with e|e
    .exact Kg.mpr (.inl e)
    .exact J0 _ (i2 g e)
theorem o8(f:Str)(v:V):∀fs:List (Str×V),(fm f v fs).length<=fs.length+1
 |[]=>by simp[fm]
 |(k,x)::r=>by
  have ih:=o8 f v r;rw[show fm f v ((k,x)::r)=(if k=f then(k,v)::r else(k,x)::fm f v r) from rfl];by_cases hk:k=f
  .rw[JX hk,JS,JS];lia
  .rw[JU hk,JS,JS];lia
theorem kg.some_of{v:V}{o:Option Value}(r:kg (some v) o):∃u,o=some u/\RelV v u:=by
 cases o with
 |none=>exact(show False from r).elim
 |some u=>exact⟨u,rfl,r⟩
theorem kg.none_of{o:Option Value}(r:kg none o):o=none:=by
 cases o with
 |none=>rfl
 |some u=>exact(show False from r).elim
theorem AJ{v:V}(r:RelV v u):PySem.W.handedIn u=true:=by
 cases v with
 |non=>cases (show u=Value.none from r);rfl
 |bl b=>cases (show u=Value.bool b from r);rfl
 |int i=>obtain⟨t,e⟩:=(show ∃t,u=Value.int i t from r);cases e;rfl
 |str x=>obtain⟨t,e⟩:=(show ∃t,u=Value.str x t from r);cases e;rfl
 |byt b=>obtain⟨t,e⟩:=(show ∃t,u=Value.bytes b t from r);cases e;rfl
 |flt b=>obtain⟨t,e⟩:=(show ∃t,u=Value.float b t from r);cases e;rfl
 |ref a=>cases (show u=Value.ref a from r);rfl
 |ty n=>cases (show u=Value.type n from r);rfl
section
variable{w:World}{dx:Addr}{fs fs':List (Str×V)}
theorem uN(hok:lB P w H h)(e:H a=some (.ins C dx fs)):∃mA,yM h a dx C mA/\(∀f,kg (fs.lookup f) (mA f))/\PySem.Within mA (fs.map (·.1))/\fs.length<=1000/\H dx=some (.own a):=by
 obtain⟨d,z,ne,ob,mA,n,r,q⟩:=(show d0 P w H h a (.ins C dx fs) from hok a _ e)
 exact⟨mA,⟨ob,n,ne⟩,r,q,z,d⟩
end
structure p7 (K:Lq) (C:Addr):Prop where
 pg:PySem.W.plainGet K C Str.empty=true
 hd:PySem.W.hasDictIn K C=true
 po:PySem.W.plainOver K C=true
 sa:PySem.W.findIn K (.ref C) "__setattr__"=some (some (.builtin "object.__setattr__"))
theorem p7.get{K:Lq}(c:p7 K C)(f:Str):PySem.W.plainGet K C f=true:=c.pg
noncomputable def aO(K:Lq)(C:Addr)(f:Str):Prop:=PySem.W.findIn K (.ref C) f=some none
theorem aO.taker{K:Lq}{f:Str}(n:aO K C f):PySem.W.takerIn K C f=some none:=by
 unfold PySem.W.takerIn;rw[show PySem.W.findIn K (.ref C) f=some none from n];rfl
structure Dl (K:Lq) (C:Addr) (m:Str) (f:Addr):Prop where
 at_:PySem.W.findIn K (.ref C) m=some (some (.ref f))
 fn:PySem.W.isFn K (.ref f)=true
 kp:PySem.W.keepIn K (.ref f)=true
section
variable{σ:St}{dx:Addr}{fs:List (Str×V)}{f:Str}{v:V}{A:Around}
theorem yw{b:Bool}(I:Inv X pins σ H s)(e:H a=some (.ins C dx fs))(c:p7 X.K C)(n:aO X.K C f)(l:fs.lookup f=some v)(h:∀u s',Inv X pins σ H s'->RelV v u->Q u s'):wpAny (model X.prog X.w) A (getAttr (.ref a) f b) Q E s:=by
 obtain⟨mA,O,r,_,_,_⟩:=uN I.hok e;obtain⟨u,hu,ru⟩:=kg.some_of (v:=v) (o:=mA f) (by rw[<-l];exact r f);exact get_map I.kIn O (c.get f) c.hd n hu (AJ ru) (h u _ (I.tok _) ru)
theorem rq{g:Addr}{Q:Value×List Value->Shared->Prop}(I:Inv X pins σ H s)(e:H a=some (.ins C dx fs))(c:p7 X.K C)(k:Dl X.K C m g)(l:fs.lookup m=none)(h:Q (.ref g,[.ref a]) s):wpAny (model X.prog X.w) A (getMethod (.ref a) m pl) Q E s:=by
 obtain⟨mA,O,r,_,_,_⟩:=uN I.hok e;have hn:mA m=none:=kg.none_of (by rw[<-l];exact r m);exact CD I.kIn O (c.get m) k.at_ k.fn hn h
theorem xV{Q:Unit->Shared->Prop}(I:Inv X pins σ H s)(e:H a=some (.ins C dx fs))(c:p7 X.K C)(n:aO X.K C f)(hl:fs.length<1000)(ry:RelV y u)(h:∀s',Inv X pins σ (upd H a (.ins C dx (fm f y fs))) s'->Q () s'):wpAny (model X.prog X.w) A (setAttr (.ref a) f u) Q E s:=by
 obtain⟨mA,O,r,wi,_,ho⟩:=uN I.hok e;have hz:(fs.map (·.1)).length<=sizeLine:=by rw[Kk,sizeLine_eq];lia
 refine DV I.kIn O c.sa c.po n.taker c.hd wi hz fun h' O' sb=>h _ ?_;have hd:∃o,h'.get? dx=some o:=let ⟨o,_,_,e',_⟩:=O'.ns;⟨o,e'⟩;refine I.write (x:=a) (e:=dx) (by rw[e];exact True.intro) (.inr ho) (fun b q hb z=>(sb.2 b hb).trans z) hd ?_;refine⟨by rw[ai O.ne];exact ho,?_,O.ne,O'.obj,_,O'.ns,fun g=>?_,fun g hg=>?_⟩
 .have:=o8 f y fs;lia
 .show kg ((fm f y fs).lookup g) (if g=f then some u else mA g);rw[aC];by_cases q:g=f
  .rw[JX q,JX q];exact ry
  .rw[JU q,JU q];exact r g
 .by_cases q:g=f
  .rw[q];exact(oF f y fs).1
  .refine(oF f y fs).2 g (wi g fun z=>hg ?_);show(if g=f then some u else mA g)=none;rw[JU q];exact z
theorem Inv.made(I:Inv X pins σ H s):Inv X pins σ (upd (upd H s.heap.objs.size (.own (s.heap.objs.size+1))) (s.heap.objs.size+1) (.ins C s.heap.objs.size []))
  {s with heap:=(s.heap.push PySem.W.emptyDict).push (PySem.W.instObj C s.heap.objs.size)}:=by
 have e1:(s.heap.push PySem.W.emptyDict).get? s.heap.objs.size=some PySem.W.emptyDict:=J6 s.heap rfl;have e2:((s.heap.push PySem.W.emptyDict).push (PySem.W.instObj C s.heap.objs.size)).get? (s.heap.objs.size+1)=some (PySem.W.instObj C s.heap.objs.size):=by
  have:=J6 (s.heap.push PySem.W.emptyDict) (o:=PySem.W.instObj C s.heap.objs.size) rfl;rwa [Heap.size_push]at this
 have e3:(s.heap.push PySem.W.emptyDict).Ns s.heap.objs.size (fun _=>none):=⟨PySem.W.emptyDict,#[],_,e1,rfl,(fun e he=>absurd he (by simp)),fun _=>rfl⟩
 have I1:=I.laid (a:=s.heap.objs.size) (o:=.own (s.heap.objs.size+1)) (h':=s.heap.push PySem.W.emptyDict) (t':=s.toks) (fun b u q=>JZ _ q) (JY _) ⟨_,e1⟩;refine I1.laid (a:=s.heap.objs.size+1) (o:=.ins C s.heap.objs.size []) (t':=s.toks) (fun b u q=>JZ _ q) (Nat.le_of_eq (Heap.size_push _ _)) ?_;have ne:s.heap.objs.size≠s.heap.objs.size+1:=Kv (Nat.lt_succ_self _);refine⟨by rw[ai ne,af],Kq _,ne,e2,fun _=>none,(Heap.Ns1.of_empty e3).at fun o q=>JZ _ q,fun _=>True.intro,fun y hy=>absurd rfl hy⟩
theorem zR{prog:Program}{w:World}{env:Env}(hb:attributeBase e f env (eval e env)=eval e env)(h:wpAny (model prog w) A (eval e env) (fun o s₁=>wpAny (model prog w) A (getAttr o f true) Q E s₁) E s):wpAny (model prog w) A (eval (.Attribute e f pos) env) Q E s :=
 Attribute_any_ h (by rw[arm_eval_Attribute,hb])
end
inductive dM (K:Lq) (f:Str) (H:Hp) (a:Addr) (Q:VK):Prop
 |mk (C dx:Addr) (fs:List (Str×V)) (v:V) (_:H a=some (.ins C dx fs)) (_:p7 K C) (_:aO K C f) (_:fs.lookup f=some v) (_:Q v H)
inductive pB (K:Lq) (f:Str) (y:V) (H:Hp) (a:Addr) (Q:Hp->Prop):Prop
 |mk (C dx:Addr) (fs:List (Str×V)) (_:H a=some (.ins C dx fs)) (_:p7 K C) (_:aO K C f) (_:fs.length<1000) (_:Q (upd H a (.ins C dx (fm f y fs))))
noncomputable def DB(K:Lq)(ta:TE)(f:Str):TE:=fun σ H Q=>ta σ H fun x H1=>kh x fun a=>dM K f H1 a Q
noncomputable def HA(K:Lq)(ta tv:TE)(f:Str):TS:=fun D σ H=>tv σ H fun y H1=>ta σ H1 fun x H2=>kh x fun a=>pB K f y H2 a (D.nx σ)
section
variable{o:Expr}{f:Str}
theorem Gk(he:PE X e ta)(hb:attributeBase e f X.env (eval e X.env)=eval e X.env):PE X (.Attribute e f pos) (DB X.K ta f):=by
 intro pins s σ H Q I h;refine zR hb (cO (he pins s σ H _ I h) fun u s1 ⟨x,H1,I1,rx,qr⟩=>?_);obtain⟨a,ex,C,dx,fs,v,ea,c,n,l,q⟩:=fC qr;subst ex;obtain rfl:u=Value.ref a:=rx;exact yw I1 ea c n l fun u' s2 I2 ru=>⟨v,H1,I2,ru,q⟩
theorem cK(ha:PE X o ta)(hv:PE X value tv)(hs:swapsWith value (some (.Attribute o f pos')) pos.line X.env=pure false):PS X (.Assign [.Attribute o f pos'] value pos) (HA X.K ta tv f):=by
 intro pins s σ H D I h;refine plainObj_wpAny_Assign_Attribute (cO (hv pins s σ H _ I h) fun u s1 ⟨y,H1,I1,ry,q⟩=>cO (ha pins s1 σ H1 _ I1 q) fun ov s2 ⟨x,H2,I2,rx,qr⟩=>?_) hs;obtain⟨a,ex,C,dx,fs,ea,c,n,l,q2⟩:=fC qr;subst ex;obtain rfl:ov=Value.ref a:=rx;exact xV I2 ea c n l ry fun s3 I3=>⟨σ,_,I3,q2⟩
end
structure fj (k:Nat) (A:Around):Prop where
 hd:A.handled=none
 dp:A.depth+3*k+5<recursionLimit
 un:A.units+16*k+200<cLine
theorem fj.mono{A:Around}(r:fj k A)(h:j<=k):fj j A:=⟨r.hd,by have:=r.dp;lia,by have:=r.un;lia⟩
theorem fj.deeper{A:Around}(r:fj (k+1) A)(env:Env):fj k (A.deeper env) :=
 ⟨r.hd,by have:=r.dp;show A.depth+1+3*k+5<_;lia,by have:=r.un;show A.units+3+16*k+200<_;lia⟩
theorem qW{A:Around}:(A.under (.builtin "type.__call__" ⟨.ref C::us,kw⟩)).depth=A.depth+1:=by
 first|rfl|simp[Around.under,Code.weight,Code.isCreation,Code.isGuard,Code.isCaller,Code.frames,Code.isFrame,guardIds]
theorem yo{A:Around}:(A.under (.builtin "type.__call__" ⟨.ref C::us,kw⟩)).units=A.units+1:=by
 first|rfl|simp[Around.under,Code.cUnits,Code.frames,Code.isFrame]
theorem fj.make{A:Around}(r:fj (k+1) A)(C:Addr)(us:List Value)(kw:List (Str×Value)):fj k (A.under (.builtin "type.__call__" ⟨.ref C::us,kw⟩)) :=
 ⟨r.hd,by have:=r.dp;rw[qW];lia,by have:=r.un;rw[yo];lia⟩
theorem fj.depth{A:Around}(r:fj k A):A.depth<recursionLimit:=by have:=r.dp;lia
theorem fj.units{A:Around}(r:fj k A):A.units+64<cLine:=by have:=r.un;lia
noncomputable def vJ:TA:=fun _ H Q=>Q [] H
noncomputable def vM(ta:TE)(tr:TA):TA:=fun σ H Q=>ta σ H fun x H1=>tr σ H1 fun xs H2=>Q (x::xs) H2
section
variable{es:List Expr}{t:TA}
theorem ag:PA X [] vJ:=fun _ _ _ _ H Q I h=>Calls.spliced_nil ⟨[],H,I,.nil,h⟩
theorem aa(ha:PE X e te)(hr:PA X es t)(hs:starEach (e::es) X.env=(false,eval e X.env)::starEach es X.env:=by rfl):PA X (e::es) (vM te t):=by
 intro pos pins s σ H Q I h;rw[hs];show wpAny _ _ (spliced ((false,eval e X.env)::backTo pos (starEach es X.env))) _ _ s;refine Calls.spliced_cons (cO (ha pins s σ H _ I h) fun u s1 ⟨x,H1,I1,r1,q1⟩=>?_);exact cO (hr pos pins s1 σ H1 _ I1 q1) fun us s2 ⟨xs,H2,I2,r2,q2⟩=>⟨x::xs,H2,I2,.cons r1 r2,q2⟩
noncomputable def FO(t:TA):TE:=fun σ H Q=>t σ H fun xs H1=>xs.length<=sizeLine/\∀p,H1 p=none->Q (.ref p) (upd H1 p (.tup xs))
noncomputable def Hl(t:TA):TE:=fun σ H Q=>t σ H fun xs H1=>xs.length<=sizeLine/\∀p,H1 p=none->Q (.ref p) (upd H1 p (.lst xs))
theorem bM{x1}(h:PA X es t):PE X (.Tuple es x1 pos) (FO t):=by
 intro pins s σ H Q I hq;refine wpAny_Tuple_spliced (cO (h pos pins s σ H _ I hq) fun us s1 ⟨xs,H1,I1,r,z,q⟩=>⟨by rw[<-r.length];exact z,?_⟩);have hf:H1 s1.heap.objs.size=none:=I1.hok.fresh (JY _);refine⟨.ref s1.heap.objs.size,upd H1 s1.heap.objs.size (.tup xs),I1.laid (t':=s1.toks) (fun b u e=>JZ _ e) (JY _) ?_,rfl,q _ hf⟩;exact⟨z,us,r,⟨_,J6 _ rfl,rfl,_,rfl⟩⟩
theorem bN(h:PA X es t):PE X (.List es pos) (Hl t):=by
 intro pins s σ H Q I hq;refine wpAny_List_spliced (cO (h pos pins s σ H _ I hq) fun us s1 ⟨xs,H1,I1,r,z,q⟩=>⟨by rw[<-r.length];exact z,?_⟩);have hf:H1 s1.heap.objs.size=none:=I1.hok.fresh (JY _);refine⟨.ref s1.heap.objs.size,upd H1 s1.heap.objs.size (.lst xs),I1.laid (t':=s1.toks) (fun b u e=>JZ _ e) (JY _) ?_,rfl,q _ hf⟩;exact⟨z,us,0,r,J6 _ rfl⟩
end
noncomputable abbrev Sp:=List V->Hp->VK->XK->Prop
variable{sp:Sp}
noncomputable abbrev G6:=List Env->Hp->Shared->XK->Value->Shared->Prop
variable{CX:G6}
structure yP (P:Program) (w:World) (K:Lq) (mg:Str->Option Value) (base:Heap) (A:Around) (outer:List Env) (s:Shared) (H:Hp):Prop where
 frames:A.frames=some outer
 mod:Mod K mg base
 bs:∀b o,base.get? b=some o->s.heap.get? b=some o/\(H b=none\/∃u,H b=some (.frz o u))
 bsz:base.objs.size<=s.heap.objs.size
 funs:s.heap.FunFrames base outer
 frf:∀b∈g6 outer,H b=none
 hok:lB P w H s.heap
 bare:AllBare s.gens
noncomputable def CE(outer:List Env)(P:Program)(w:World)(H:Hp)(s:Shared)(Q:VK)(u:Value)(s':Shared):Prop :=
 ∃v H',s'.os=s.os/\AllBare s'.gens/\Un (g6 outer) [] H H' s.heap s'.heap/\lB P w H' s'.heap/\RelV v u/\Q v H'
noncomputable def CR(CX:G6)(outer:List Env)(P:Program)(w:World)(H:Hp)(s:Shared)(Q:VK)(E:XK)(r:Result)(s':Shared):Prop :=
 match r with
 |.ok (.ret u)=>CE outer P w H s Q u s'
 |.ok _=>False
 |.error e=>CX outer H s E e s'
structure pV (P:Program) (w:World) (K:Lq) (mg:Str->Option Value) (base:Heap) (CX:G6) (k:Nat) (f:Addr) (fd:FuncData) (ps:List Str) (sp:Sp):Prop where
 len:∀vs H Q E,sp vs H Q E->vs.length=ps.length
 run:∀(A:Around) (outer:List Env) (s:Shared) (H:Hp) (args:Args) (us:List Value) (vs:List V) (Q:VK) (E:XK),fj k A->yP P w K mg base A outer s H->BindsTo s fd args (ps.zip us)->aU vs us->sp vs H Q E ->
  codeAny (model P w) A (.call (.ref f) args) (CR CX outer P w H s Q E) s
theorem yP.make{w:World}{K:Lq}{mg:Str->Option Value}{base:Heap}{A:Around}{outer:List Env}(e:yP P w K mg base A outer s H)(C:Addr)(us:List Value)(kw:List (Str×Value)):
  yP P w K mg base (A.under (.builtin "type.__call__" ⟨.ref C::us,kw⟩)) outer s H:=⟨by first|exact e.frames|(simpa [Around.under,Code.envs,Code.isFrame,pushEnvs]using e.frames),e.mod,e.bs,e.bsz,e.funs,e.frf,e.hok,e.bare⟩
section
variable{σ:St}
theorem Inv.env0(I:Inv X pins σ H s):yP X.prog X.w X.K X.mg X.base X.A X.stack s H :=
 ⟨I.ok.frames,I.ok.mod,I.bs,KH I.ok.bsz I.sz,I.stack,I.stkFree,I.hok,I.bare⟩
theorem Inv.after{Q:VK}(I:Inv X pins σ H s)(h:CE X.stack X.prog X.w H s Q u s'):EP X pins σ Q u s':=by
 obtain⟨v,H',os,bare,un,hok,r,q⟩:=h;obtain⟨hh,g,d,t,os'⟩:=s';obtain rfl:os'=s.os:=os;exact⟨v,H',I.call (h':=hh) (g':=g) (d':=d) (t':=t) (ch:=[]) un hok bare (fun b z=>absurd z (by simp)),r,q⟩
end
noncomputable def yY(sp:Sp)(dvs:List V)(E:XS)(t:TA):TE:=fun σ H Q=>t σ H fun vs H1=>sp (vs++dvs) H1 Q (E σ)
inductive jg (C:Addr) (m:Str) (H:Hp) (a:Addr):Prop
 |mk (dx:Addr) (fs:List (Str×V)) (_:H a=some (.ins C dx fs)) (_:fs.lookup m=none)
noncomputable def vK(C:Addr)(m:Str)(sp:Sp)(dvs:List V)(E:XS)(ta:TE)(t:TA):TE:=fun σ H Q=>ta σ H fun x H1=>kh x fun a=>jg C m H1 a/\t σ H1 fun vs H2=>sp (x::(vs++dvs)) H2 Q (E σ)
noncomputable def vL(C:Addr)(sp:Sp)(dvs:List V)(E:XS)(t:TA):TE:=fun σ H Q=>t σ H fun vs H1=>∀x dx,H1 x=none->H1 dx=none->dx≠x ->
 sp (.ref x::(vs++dvs)) (upd (upd H1 dx (.own x)) x (.ins C dx [])) (fun v H2=>v = .non/\Q (.ref x) H2) (E σ)
noncomputable def Binds(K:Lq)(fd:FuncData)(ps:List Str)(ds:List Value):Prop :=
 ∀(s:Shared) (us:List Value),K.In s.heap->(us++ds).length=ps.length->BindsTo s fd ⟨us,[]⟩ (ps.zip (us++ds))
theorem Binds.all{K:Lq}(h:∀us:List Value,us.length=ps.length->bindArgs fd ⟨us,[]⟩=pure (ps.zip us)):Binds K fd ps []:=fun s us _ hl=>by
 rw[Kw]at hl ⊢;exact .of_eq (h us hl)
noncomputable def lx(CX:G6)(X:Cx)(E:XS):Prop:=∀(pins:List (Addr×Obj)) (σ:St) (H:Hp) (s:Shared) (e:Value) (s':Shared),Inv X pins σ H s->CX X.stack H s (E σ) e s'->X.xe e s'
section
variable{f:Addr}{dvs:List V}{ds:List Value}{E:XS}{o:Expr}{es:List Expr}{t:TA}
theorem xX{σ:St}{Q:VK}{vs:List V}(F:pV X.prog X.w X.K X.mg X.base CX k f fd ps sp)(hr:fj k X.A)(hb:Binds X.K fd ps ds)(hd:aU dvs ds)(hx:lx CX X E)(I:Inv X pins σ H s)(r:aU vs us)(h:sp (vs++dvs) H Q (E σ)):wpAny (model X.prog X.w) X.A (call (.ref f) us) (EP X pins σ Q) X.xe s:=by
 have r2:aU (vs++dvs) (us++ds):=r.append hd;have hl:(us++ds).length=ps.length:=by rw[<-r2.length];exact F.len _ _ _ _ h
 refine wpAny_call (codeAny_mono (F.run X.A X.stack s H ⟨us,[]⟩ (us++ds) (vs++dvs) Q (E σ) hr I.env0 (hb s us I.kIn hl) r2 h) fun r s' hq=>?_);cases r with
 |error e=>exact hx pins σ H s e s' I hq
 |ok fl =>
  cases fl with
  |ret u=>exact I.after hq
  |next=>exact False.elim hq
  |brk=>exact False.elim hq
  |cont=>exact False.elim hq
theorem Ec(F:pV X.prog X.w X.K X.mg X.base CX k f fd ps sp)(hr:fj k X.A)(hg:Gl X x)(hm:X.mg x=some (.ref f))(hk:PySem.W.keepIn X.K (.ref f)=true)(hb:Binds X.K fd ps ds)(hd:aU dvs ds)(hx:lx CX X E)(ha:PA X (e::es) t)(hdb:(x==("__debug__":Str))=false:=by decide)(he:starEach (e::es) X.env=(false,eval e X.env)::starEach es X.env:=by rfl)(hpl:(backTo pos (starEach es X.env)).any (·.1)=false:=by rfl):
  PE X (.Call (.Name x p) (e::es) [] pos) (yY sp dvs E t):=by
 intro pins s σ H Q I h;refine wpAny_Call_Name_kw (iH I hg hm ?_ hdb);refine PySem.W.callWith_K (h₀:=X.base) I.ok.mod.kin hk (cO (ha pos pins s σ H _ I h) fun us s1 ⟨vs,H1,I1,r,q⟩=>⟨I1.kIn,?_⟩) he hpl;exact xX F hr hb hd hx I1 r q
theorem D7(he:PE X o ta)(c:p7 X.K C)(hm:Dl X.K C m f)(F:pV X.prog X.w X.K X.mg X.base CX k f fd ps sp)(hr:fj k X.A)(hb:Binds X.K fd ps ds)(hd:aU dvs ds)(hx:lx CX X E)(ha:PA X (e::es) t)(hst:starEach (e::es) X.env=(false,eval e X.env)::starEach es X.env:=by rfl)(hpl:(backTo pos (starEach es X.env)).any (·.1)=false:=by rfl)(ht:eval (.Call (.Attribute o m apos) (e::es) [] pos) X.env=(do
   let ov <-eval o X.env
   standAt apos.atName
   let (f,first) <-holding [ov] (getMethod ov m pl)
   callWith pos f first (backTo pos (starEach (e::es) X.env)) (backToKw pos (keywordEach [] X.env))):=by rfl):
  PE X (.Call (.Attribute o m apos) (e::es) [] pos) (vK C m sp dvs E ta t):=by
 intro pins s σ H Q I h;refine PySem.W.methodCall_KW (pl:=pl) (cO (he pins s σ H _ I h) fun u s1 ⟨x,H1,I1,rx,qr⟩=>?_) ht;obtain⟨a,ex,⟨dx,fs,ea,l⟩,q⟩:=fC qr;subst ex;obtain rfl:u=Value.ref a:=rx;refine rq I1 ea c hm l ?_;refine PySem.W.callWith_K (first:=[.ref a]) (h₀:=X.base) I.ok.mod.kin hm.kp (cO (ha pos pins s1 σ H1 _ I1 q) fun us s2 ⟨vs,H2,I2,r,q2⟩=>⟨I2.kIn,?_⟩) hst hpl;exact xX (us:=.ref a::us) (vs:=.ref a::vs) F hr hb hd hx I2 (.cons rfl r) q2
theorem BW(he:PE X o ta)(c:p7 X.K C)(hm:Dl X.K C m f)(F:pV X.prog X.w X.K X.mg X.base CX k f fd ps sp)(hr:fj k X.A)(hb:Binds X.K fd ps ds)(hd:aU dvs ds)(hx:lx CX X E)(ht:eval (.Call (.Attribute o m apos) [] [] pos) X.env=(do
   let ov <-eval o X.env
   standAt apos.atName
   let (f,first) <-holding [ov] (getMethod ov m pl)
   callWith pos f first (backTo pos (starEach [] X.env)) (backToKw pos (keywordEach [] X.env))):=by rfl):
  PE X (.Call (.Attribute o m apos) [] [] pos) (vK C m sp dvs E ta vJ):=by
 intro pins s σ H Q I h;refine PySem.W.methodCall_KW (pl:=pl) (cO (he pins s σ H _ I h) fun u s1 ⟨x,H1,I1,rx,qr⟩=>?_) ht;obtain⟨a,ex,⟨dx,fs,ea,l⟩,q⟩:=fC qr;subst ex;obtain rfl:u=Value.ref a:=rx;refine rq I1 ea c hm l ?_;exact PySem.W.callWith_K0 (first:=[.ref a]) I1.kIn hm.kp (xX (us:=[.ref a]) (vs:=[.ref a]) F hr hb hd hx I1 (.cons rfl .nil) q)
structure Mk (K:Lq) (C f:Addr):Prop where
 makes:PySem.W.makesIn K C=true
 init:PySem.W.findIn K (.ref C) "__init__"=some (some (.ref f))
 fn:PySem.W.isFn K (.ref f)=true
 kp:PySem.W.keepIn K (.ref C)=true
theorem vO{σ:St}{Q:VK}{vs:List V}(M:Mk X.K C f)(F:pV X.prog X.w X.K X.mg X.base CX k f fd ps sp)(hr:fj (k+1) X.A)(hb:Binds X.K fd ps ds)(hd:aU dvs ds)(hx:lx CX X E)(I:Inv X pins σ H s)(r:aU vs us)(h:∀x dx,H x=none->H dx=none->dx≠x->sp (.ref x::(vs++dvs)) (upd (upd H dx (.own x)) x (.ins C dx [])) (fun v H2=>v = .non/\Q (.ref x) H2) (E σ)):
  wpAny (model X.prog X.w) X.A (call (.ref C) us) (EP X pins σ Q) X.xe s:=by
 have hq:=h (s.heap.objs.size+1) s.heap.objs.size (I.hok.fresh (Nat.le_succ _)) (I.hok.fresh (JY _)) (Kv (Nat.lt_succ_self _));have I2:=Inv.made (C:=C) I;have r2:aU (V.ref (s.heap.objs.size+1)::(vs++dvs)) (Value.ref (s.heap.objs.size+1)::(us++ds)):=.cons rfl (r.append hd);have hl:(Value.ref (s.heap.objs.size+1)::us++ds).length=ps.length:=by
  have e:=r2.length;rw[F.len _ _ _ _ hq]at e;exact e.symm
 refine wpAny_call (Ce (f:=f) I.kIn M.makes M.init (beq_iff_eq.mp M.fn) (codeAny_mono (F.run _ X.stack _ _ ⟨Value.ref (s.heap.objs.size+1)::us,[]⟩ (Value.ref (s.heap.objs.size+1)::(us++ds)) _ _ (E σ) (hr.make C us [])
  (I2.env0.make C us []) (hb _ (Value.ref (s.heap.objs.size+1)::us) I2.kIn hl) r2 hq) fun r s' hq'=>?_))
 cases r with
 |error e=>exact hx pins σ _ _ e s' I2 hq'
 |ok fl =>
  cases fl with
  |ret u =>
   obtain⟨v,H',I3,rv,ev,q3⟩:=I2.after hq';subst ev;exact⟨rv,⟨V.ref (s.heap.objs.size+1),H',I3,rfl,q3⟩⟩
  |next=>exact False.elim hq'
  |brk=>exact False.elim hq'
  |cont=>exact False.elim hq'
theorem D8(M:Mk X.K C f)(F:pV X.prog X.w X.K X.mg X.base CX k f fd ps sp)(hr:fj (k+1) X.A)(hg:Gl X x)(hm:X.mg x=some (.ref C))(hb:Binds X.K fd ps ds)(hd:aU dvs ds)(hx:lx CX X E)(ha:PA X (e::es) t)(hdb:(x==("__debug__":Str))=false:=by decide)(he:starEach (e::es) X.env=(false,eval e X.env)::starEach es X.env:=by rfl)(hpl:(backTo pos (starEach es X.env)).any (·.1)=false:=by rfl):
  PE X (.Call (.Name x p) (e::es) [] pos) (vL C sp dvs E t):=by
 intro pins s σ H Q I h;refine wpAny_Call_Name_kw (iH I hg hm ?_ hdb);refine PySem.W.callWith_K (h₀:=X.base) I.ok.mod.kin M.kp (cO (ha pos pins s σ H _ I h) fun us s1 ⟨vs,H1,I1,r,q⟩=>⟨I1.kIn,?_⟩) he hpl;exact vO M F hr hb hd hx I1 r q
theorem BX(M:Mk X.K C f)(F:pV X.prog X.w X.K X.mg X.base CX k f fd ps sp)(hr:fj (k+1) X.A)(hg:Gl X x)(hm:X.mg x=some (.ref C))(hb:Binds X.K fd ps ds)(hd:aU dvs ds)(hx:lx CX X E)(hdb:(x==("__debug__":Str))=false:=by decide):PE X (.Call (.Name x p) [] [] pos) (vL C sp dvs E vJ):=by
 intro pins s σ H Q I h;refine wpAny_Call_Name_kw (iH I hg hm ?_ hdb);exact PySem.W.callWith_K0 I.kIn M.kp (vO (us:=[]) M F hr hb hd hx I .nil h)
end
structure fR (N P:List Str) (sc:Scope):Prop where
 kind:sc.kind = .function
 co:sc.isCoroutine=false
 gen:sc.isGenerator=false
 nd:N.Nodup
 pre:N.take P.length=P
 par:∀x∈P,sc.names.lookup x=some .local\/sc.names.lookup x=some .cell
 nofree:∀y∈sc.names,y.2 ≠ .free
theorem tw:∀{binds:List (Str×Value)} {m:Str->Option Value},(∀v,(x,v)∉binds)->bindL kindOf binds m x=m x
 |[],_,_=>rfl
 |(n,v)::r,m,h=>by
  unfold bindL;rw[tw fun w hw=>h w (J0 _ hw)];split
  .have:x≠n:=by rintro rfl;exact h v J8
   simp[this]
  .rfl
theorem tD:∀{binds:List (Str×Value)} {m:Str->Option Value},(∀v,(x,v)∉binds)->bindC kindOf binds m x=m x
 |[],_,_=>rfl
 |(n,v)::r,m,h=>by
  unfold bindC;rw[tD fun w hw=>h w (J0 _ hw)];split
  .rfl
  .have:x≠n:=by rintro rfl;exact h v J8
   simp[this]
theorem lP:∀{P:List Str} {vs:List Value} {i:Nat} {m:Str->Option Value},P.Nodup->P[i]?=some x->vs[i]?=some v->kindOf x=some .local ->
  bindL kindOf (P.zip vs) m x=some v
 |[],_,_,_,_,h,_,_=>by simp at h
 |_::_,[],_,_,_,_,h,_=>by simp at h
 |p::P,w::vs,0,m,nd,h1,h2,hk=>by
  simp at h1 h2;subst h1;subst h2;show bindL kindOf ((p,w)::P.zip vs) m p=_;unfold bindL;rw[tw fun v hv=>(K9.mp nd).1 (List.of_mem_zip hv).1,JX hk];simp
 |p::P,w::vs,i+1,m,nd,h1,h2,hk=>by
  show bindL kindOf ((p,w)::P.zip vs) m x=_;unfold bindL;exact lP (i:=i) (K9.mp nd).2 (by simpa using h1) (by simpa using h2) hk
theorem tE:∀{P:List Str} {vs:List Value} {i:Nat} {m:Str->Option Value},P.Nodup->P[i]?=some x->vs[i]?=some v->kindOf x≠some .local ->
  bindC kindOf (P.zip vs) m x=some v
 |[],_,_,_,_,h,_,_=>by simp at h
 |_::_,[],_,_,_,_,h,_=>by simp at h
 |p::P,w::vs,0,m,nd,h1,h2,hk=>by
  simp at h1 h2;subst h1;subst h2;show bindC kindOf ((p,w)::P.zip vs) m p=_;unfold bindC;rw[tD fun v hv=>(K9.mp nd).1 (List.of_mem_zip hv).1,JU hk];simp
 |p::P,w::vs,i+1,m,nd,h1,h2,hk=>by
  show bindC kindOf ((p,w)::P.zip vs) m x=_;unfold bindC;exact tE (i:=i) (K9.mp nd).2 (by simpa using h1) (by simpa using h2) hk
noncomputable def start(N:List Str)(vs:List V):St:=vs.map some++List.replicate (N.length-vs.length) none
noncomputable def jq(CX:G6)(P:Program)(w:World)(K:Lq)(mg:Str->Option Value)(base:Heap)(N:List Str)(qual:Str)(scope:Scope)(f:Addr)(cd:Value)(A:Around)(outer:List Env)(s:Shared)(H:Hp)(E:XK):Cx where
 prog:=P
 w:=w
 K:=K
 mg:=mg
 base:=base
 A:=A.deeper (envOfC qual scope s.heap.objs.size f cd)
 N:=N
 s_0:=s
 H_0:=H
 env:=envOfC qual scope s.heap.objs.size f cd
 outer:=outer
 stack:=envOfC qual scope s.heap.objs.size f cd::outer
 ex:=[]
 calm:=true
 fn:=fun _=>true
 pn:=[]
 xe:=fun e s'=>wpAny (model P w) (A.deeper (envOfC qual scope s.heap.objs.size f cd)) (leaving (envOfC qual scope s.heap.objs.size f cd) e) (fun _ s''=>CX outer H s E e s'') (fun e' s''=>CX outer H s E e' s'') s'
theorem xi(h:sc.names.lookup x=some .cell):∃c,(cellsFrom n sc.names []).lookup x=some c:=by
 have q:=PySem.W.cellsFrom_some sc.names n [] (.inl h);exact Option.isSome_iff_exists.mp q
theorem AF{w:World}{K:Lq}{mg:Str->Option Value}{base:Heap}{N:List Str}{f:Addr}{cd:Value}{A:Around}{outer:List Env}{s1:Shared}{E:XK}{vs:List V}(S:fR N ps scope)(hd:A.handled=none)(e0:yP P w K mg base A outer s H)(hl:vs.length=ps.length)(r:aU vs us)(x:InCallC s s.heap.objs.size (bindL (envOfC qual scope s.heap.objs.size f cd).kindOf (ps.zip us) fun _=>none) (cellsFrom (s.heap.objs.size+1) scope.names []) (bindC (envOfC qual scope s.heap.objs.size f cd).kindOf (ps.zip us) fun _=>none) s1):
  Inv (jq CX P w K mg base N qual scope f cd A outer s H E) [] (start N vs) H s1:=by
 have hpl:ps.length<=N.length:=by have:=congrArg List.length S.pre;rw[Kf]at this;lia
 obtain⟨h1,tk,rfl,hk⟩:=x.done;have noA:∀b:Addr,b∉(jq CX P w K mg base N qual scope f cd A outer s H E).ex:=fun b z=>absurd (show b∈([]:List Addr) from z) (by simp);refine⟨⟨e0.mod,S.kind,rfl,rfl,JY _,fun y z c h1 h2=>?_,fun y hy=>?_,fun y c _ h=>?_,fun _=>hd,Around.frames_deeper e0.frames,.inr ⟨rfl,rfl⟩,fun b z=>absurd z (noA b),e0.bs,e0.bsz,fun b _ _=>noA b,fun b z=>absurd z (noA b),e0.funs,e0.frf⟩,
  rfl,e0.bare,Un.kept hk,⟨_,x.toInCall.ns,fun i y v h1 h2 h3=>?_⟩,fun y c h=>⟨_,x.cell y c h⟩,e0.hok.fresh (JY _),fun y c h=>?_,fun p hp=>absurd (show p∈([]:List (Addr×Obj)) from hp) (by simp),e0.hok.kept hk,?_⟩
 .exact name_of_addr x.apart (Ky h1) (Ky h2)
 .have hy:scope.names.lookup y=some .cell\/scope.names.lookup y=some .free:=hy;rcases hy with hy|hy
  .exact xi hy
  .exact absurd rfl (S.nofree _ (Ky hy))
 .exact Nat.le_of_lt (x.above y c (Ky h))
 .have hi:i<vs.length:=by
   unfold start at h2;by_cases hi:i<vs.length
   .exact hi
   .rw[List.getElem?_append_right (by simpa using hi)]at h2;rw[List.getElem?_replicate]at h2;split at h2<;>cases h2
  have ha:vs[i]?=some v:=by
   unfold start at h2;rw[List.getElem?_append_left (by simpa using hi),KW]at h2;cases e:vs[i]? with
   |none=>rw[e]at h2;cases h2
   |some a=>rw[e]at h2;cases h2;rfl
  obtain⟨u,hu,rv⟩:=r.get ha;have hp:ps[i]?=some y:=by
   rw[<-S.pre,List.getElem?_take_of_lt (by lia)];exact h1
  have ndP:ps.Nodup:=by rw[<-S.pre];exact S.nd.sublist (List.take_sublist _ _)
  refine⟨u,rv,?_⟩;rcases S.par y (Kr hp) with k|k
  .exact .inl ⟨k,lP ndP hp hu k⟩
  .obtain⟨c,e⟩:=xi (n:=s.heap.objs.size+1) k;refine .inr ⟨.inl k,c,e,?_⟩;have q:=x.cell y c e;rw[tE ndP hp hu (by show scope.names.lookup y≠_;rw[k];decide)]at q;exact q
 .exact e0.hok.fresh (Nat.le_of_lt (x.above y c (Ky h)))
 .unfold start;show _=N.length;rw[JT,Kk,List.length_replicate];lia
theorem Ia{w:World}{K:Lq}{mg:Str->Option Value}{base:Heap}{f:Addr}{params:Arguments}{dV kV doc ct:Value}{od:Option Addr}{N:List Str}(lk:K.lookup f=some ⟨oc,od,.func (PySem.W.fnOf name qual params body scope dV kV doc pm an cdv ct),osl⟩)(hcd:PySem.W.codeIn K cdv qual=true)(S:fR N ps scope)(len:∀vs H Q E,sp vs H Q E->vs.length=ps.length)(hbody:∀(A:Around) (outer:List Env) (s:Shared) (H:Hp) (vs:List V) (Q:VK) (E:XK),fj k (A.deeper (envOfC qual scope s.heap.objs.size f cdv))->sp vs H Q E ->
   ∃t,sI (jq CX P w K mg base N qual scope f cdv A outer s H E) body t/\t {nx:=fun _ H'=>Q .non H',rt:=Q} (start N vs) H):
  pV P w K mg base CX (k+1) f (PySem.W.fnOf name qual params body scope dV kV doc pm an cdv ct) ps sp:=by
 refine⟨len,fun A outer s H args us vs Q E hr e0 hb r hsp=>?_⟩;have hl:=len _ _ _ _ hsp;have KX:K.In s.heap:=e0.mod.kin.keeps fun b o e=>(e0.bs b o e).1;have lim:s.heap.NoLimit:=e0.mod.nolimit.keeps fun b o e=>(e0.bs b o e).1;have hkind:∀y∈ps.zip us,scope.names.lookup y.1=some .local\/(scope.names.lookup y.1=some .cell/\((cellsFrom (s.heap.objs.size+1) scope.names []).lookup y.1).isSome=true):=fun⟨n,v⟩ hy=>by
  rcases S.par n (List.of_mem_zip hy).1 with q|q
  .exact .inl q
  .exact .inr ⟨q,PySem.W.cellsFrom_some _ _ _ (.inl q)⟩
 refine codeAny_call_function hr.depth (KX _ _ lk) rfl S.co S.gen rfl (PySem.W.codeRec_of KX hcd) (hb _ _ _ _ ?_);refine wpAny_newFunctionEnv_cells S.kind hkind fun env he s1 x=>?_;subst he;refine⟨lim.keeps x.toInCall.keep,codeAny_func ?_⟩;obtain⟨t,ht,hq⟩:=hbody A outer s H vs Q E (hr.deeper _) hsp;have I:Inv (jq CX P w K mg base N qual scope f cdv A outer s H E) [] (start N vs) H s1:=AF S hr.hd e0 hl r x;refine KR (ht [] s1 (start N vs) H _ I hq) (fun fl s' hs=>?_) fun e s' hs=>hs;have fin:∀{σ':St} {H':Hp} {v:V} {u:Value},Inv (jq CX P w K mg base N qual scope f cdv A outer s H E) [] σ' H' s'->RelV v u->Q v H'->CE outer P w H s Q u s' :=
  fun {σ' H' v u} J rv q=>⟨v,H',J.os,J.bare,J.base,J.hok,rv,q⟩
 cases fl with
 |ret u =>
  obtain⟨v,σ',H',J,rv,q⟩:=hs;exact fin J rv q
 |next =>
  obtain⟨σ',H',J,q⟩:=hs;exact fin (v:=V.non) (u:=Value.none) J rfl q
 |brk =>
  obtain⟨_,_,_,q⟩:=hs;exact False.elim q
 |cont =>
  obtain⟨_,_,_,q⟩:=hs;exact False.elim q
section
variable{es:List Expr}{t:TA}{id:String}{r:List V->Hp->VK->Prop}
noncomputable def Iq(r:List V->Hp->VK->Prop)(t:TA):TE:=fun σ H Q=>t σ H fun vs H1=>r vs H1 Q
theorem jw(hc:iq X (.builtin id) r)(hg:Gl X x)(hm:X.mg x=none)(hv:bootBuiltins x=some (.builtin id))(ha:PA X (e::es) t)(hn:x≠"__name__":=by decide)(hdb:(x==("__debug__":Str))=false:=by decide)(he:starEach (e::es) X.env=(false,eval e X.env)::starEach es X.env:=by rfl)(hpl:(backTo pos (starEach es X.env)).any (·.1)=false:=by rfl):PE X (.Call (.Name x p) (e::es) [] pos) (Iq r t):=by
 intro pins s σ H Q I h;refine wpAny_Call_Name_kw (kW I hg hm hv ?_ hn hdb);exact PyProof.Rows.callWith_builtin1 (cO (ha pos pins s σ H _ I h) fun us s1 ⟨vs,H1,I1,r1,q1⟩=>hc pins s1 σ H1 vs us Q I1 r1 q1) he hpl
theorem dS(hc:iq X (.type T) r)(hg:Gl X x)(hm:X.mg x=none)(hv:bootBuiltins x=some (.type T))(ha:PA X (e::es) t)(hn:x≠"__name__":=by decide)(hdb:(x==("__debug__":Str))=false:=by decide)(he:starEach (e::es) X.env=(false,eval e X.env)::starEach es X.env:=by rfl)(hpl:(backTo pos (starEach es X.env)).any (·.1)=false:=by rfl):PE X (.Call (.Name x p) (e::es) [] pos) (Iq r t):=by
 intro pins s σ H Q I h;refine wpAny_Call_Name_kw (kW I hg hm hv ?_ hn hdb);exact PyProof.Rows.callWith_type1 (cO (ha pos pins s σ H _ I h) fun us s1 ⟨vs,H1,I1,r1,q1⟩=>hc pins s1 σ H1 vs us Q I1 r1 q1) he hpl
end
end L2
namespace HT
open PySem PyProof.Rows
section
variable{prog:Program}{w:World}{A:Around}{E:Value->Shared->Prop}{s:Shared}
theorem EK{t b:Addr}{vs ws:List Value}{Q:Value->Shared->Prop}(ht:IsTup s.heap t vs.toArray)(hb:IsTup s.heap b ws.toArray)(hv:vs≠[])(h1:ws=[]->Q (.ref t) s)(h2:ws≠[]->Q (.ref s.heap.objs.size) {s with heap:=s.heap.push {cls:=.type "tuple",data:=.seq (vs++ws).toArray}})(hsz:vs.length+ws.length<=sizeLine):wpAny (model prog w) A (binaryOp .Add (.ref t) (.ref b)) Q E s:=by
 obtain⟨⟨cls,dd,data,sl⟩,ho,hc,n,hd⟩:=id ht;obtain⟨⟨cls2,dd2,data2,sl2⟩,ho2,hc2,n2,hd2⟩:=id hb;simp only at hc hd hc2 hd2;subst hc hd hc2 hd2;have e:vs.toArray++ws.toArray=(vs++ws).toArray:=by simp
 by_cases hw:ws=[]
 .exact concat_meets ⟨_,ho,rfl⟩ ⟨_,ho2,rfl⟩ noFill_tuple_add seq_tuple_add PySem.F.slot_tuple_add PySem.F.entry_tuple_add (PySem.F.args_tuple_add_2 _ _)
   (tuple_addW1 t b vs.toArray ws.toArray n n2 dd dd2 sl sl2 (by simpa using hv) (by simp[hw])) ⟨ho,ho2,h1 hw⟩
 .refine concat_meets ⟨_,ho,rfl⟩ ⟨_,ho2,rfl⟩ noFill_tuple_add seq_tuple_add PySem.F.slot_tuple_add PySem.F.entry_tuple_add (PySem.F.args_tuple_add_2 _ _)
   (tuple_addW2 t b vs.toArray ws.toArray n n2 dd dd2 sl sl2 (by simpa using hv) (by simpa using hw) (by rw[Ke,Ke];exact hsz)) ⟨ho,ho2,?_⟩
  rw[e];exact h2 hw
noncomputable def fS(n d:Nat):Option Int->Nat
 |none=>d
 |some v=>if v<0 then(v+(n:Int)).toNat else min v.toNat n
theorem qp(n d:Nat):fS n d none=d:=rfl
theorem mS(n d k:Nat):fS n d (some (k:Int))=min k n:=by
 show(if (k:Int)<0 then((k:Int)+(n:Int)).toNat else min (k:Int).toNat n)=min k n;rw[JU (by lia),Lj]
theorem F6(n d:Nat)(hd:d<=n)(o:Option Int):fS n d o<=n:=by
 cases o with
 |none=>exact hd
 |some v =>
  show(if v<0 then(v+(n:Int)).toNat else min v.toNat n)<=n;by_cases hv:v<0
  .rw[JX hv];lia
  .rw[JU hv];exact Nat.min_le_right _ _
theorem zP(v:Int)(n d:Nat):(if v<0 then max (v+(n:Int)) 0 else min v (n:Int))=((fS n d (some v):Nat):Int):=by
 show(if v<0 then max (v+(n:Int)) 0 else min v (n:Int))=(((if v<0 then(v+(n:Int)).toNat else min v.toNat n):Nat):Int);by_cases hv:v<0
 .simp only[JX hv];lia
 .simp only[JU hv];lia
theorem yI(lo hi:Option Int)(n:Nat):Builtin.Slice.sliceAdjust lo hi 1 (n:Int)=(((fS n 0 lo:Nat):Int),((fS n n hi:Nat):Int)):=by
 have h1:¬((1:Int)<0):=by lia
 unfold Builtin.Slice.sliceAdjust;simp only[h1,if_false];refine Prod.ext ?_ ?_
 .cases lo with
  |none=>rfl
  |some v=>exact zP v n 0
 .cases hi with
  |none=>rfl
  |some v=>exact zP v n n
theorem yc(i j:Nat):Builtin.Slice.slicePlaces (i:Int) (j:Int) 1=j-i:=by
 unfold Builtin.Slice.slicePlaces;have h1:(1:Int)>0:=by lia
 simp only[h1,if_true,Int.ediv_one];split<;>lia
theorem qj{v:Value}{o:Option Int}{Q:Option Int->Shared->Prop}(p:IsPart v o)(h:Q o s):wpAny (model prog w) A (Builtin.Slice.slicePartIndex v) Q E s:=by
 cases p with
 |none=>exact slicePart_none h
 |int i t=>exact slicePart_int h
theorem ju{sl:Addr}{vl vu:Value}{lo hi:Option Int}{n:Nat}{Q:Int×Int×Nat->Shared->Prop}(hs:s.heap.IsSliceOf sl vl vu .none)(pl:IsPart vl lo)(pu:IsPart vu hi)(h:Q (((fS n 0 lo:Nat):Int),1,fS n n hi-fS n 0 lo) s):wpAny (model prog w) A (Builtin.Slice.sliceApplied (.ref sl) (pure (n:Int))) Q E s:=by
 obtain⟨os,hos,hcs,hds⟩:=id hs;unfold Builtin.Slice.sliceApplied Builtin.Slice.sliceFields;refine JR (JR (KS hos hds (x:=vl) rfl (JR (KS hos hds (x:=vu) rfl (JR (KS hos hds (x:=.none) rfl (JV ?_)))))));refine JR (slicePart_none ?_);show wpAny _ _ (if ((1:Int)==0)=true then _ else _) _ _ s;rw[JU (by decide)];refine JR (qj pl (JR (qj pu (JR (JV ?_)))));show wpAny _ _ (match Builtin.Slice.sliceAdjust lo hi 1 (n:Int) with|(lo,hi)=>pure (lo,(1:Int),Builtin.Slice.slicePlaces lo hi 1)) _ _ s;rw[yI lo hi n];show wpAny _ _ (pure (((fS n 0 lo:Nat):Int),(1:Int),Builtin.Slice.slicePlaces ((fS n 0 lo:Nat):Int) ((fS n n hi:Nat):Int) 1)) _ _ s;rw[yc];exact JV h
theorem BO(xs:Array Value)(i k:Nat):((List.range k).filterMap fun(m:Nat)=>xs[((i:Int)+(m:Int)*1).toNat]?).toArray=((xs.toList.drop i).take k).toArray:=by
 have e:(fun(m:Nat)=>xs[((i:Int)+(m:Int)*1).toNat]?)=fun m=>xs[i+m]?:=by
  funext m;have:((i:Int)+(m:Int)*1).toNat=i+m:=by lia
  rw[this]
 rw[e];have:=pick_run xs i k;rw[List.filterMap_map]at this;have e2:((fun x=>xs[x]?)∘fun x=>i+x)=fun m=>xs[i+m]?:=rfl;rw[e2]at this;rw[this]
theorem nD{t sl:Addr}{items:Array Value}{vl vu:Value}{lo hi:Option Int}{Q:Value->Shared->Prop}(ht:IsTup s.heap t items)(hs:s.heap.IsSliceOf sl vl vu .none)(pl:IsPart vl lo)(pu:IsPart vu hi)(hw:¬(fS items.size 0 lo=0/\fS items.size items.size hi=items.size))(h:Q (.ref s.heap.objs.size) {s with heap:=s.heap.push {cls:=.type "tuple",data:=.seq ((items.toList.drop (fS items.size 0 lo)).take (fS items.size items.size hi-fS items.size 0 lo)).toArray}})(hsz:items.size<=sizeLine):wpAny (model prog w) A (getItem (.ref t) (.ref sl)) Q E s:=by
 have htake:sizeOk (.seq ((items.toList.drop (fS items.size 0 lo)).take (fS items.size items.size hi-fS items.size 0 lo)).toArray):=by
  show((items.toList.drop (fS items.size 0 lo)).take (fS items.size items.size hi-fS items.size 0 lo)).toArray.size<=sizeLine;rw[Ke,Kf,J4,Lr];omega
 have hj:fS items.size items.size hi<=items.size:=F6 _ _ (JY _) hi;obtain⟨os,hos,hcs,hds⟩:=id hs;have hTs:s.TypeIs (.ref sl) "slice":=⟨os,hos,hcs⟩
 unfold getItem;try with_reducible refine KU ?_
 first|refine JR (JV ?_)|skip
 refine JR (wpAny_sequenceKey ht.typeIs (by decide) ?_);refine JR (wpAny_callSpecial?_slot (name:=Str.ofString "__getitem__") ht.typeIs PyProof.Rows.slot_tuple_getitem
  (wpAny_call_entry PyProof.Rows.slot_tuple_getitem ht.typeIs entry_tuple_getitem ?_ (args_tuple_getitem _ _)))
 show wpAny _ _ (Builtin.Tuple.tupleItemsOf (.ref t) >>= _) _ _ s;refine JR (tupleItemsOf_ ht ?_);refine JR (wpAny_typeOf hTs ?_);rw[JX (by decide)];refine JR (ju hs pl pu ?_);have hno:¬((((fS items.size 0 lo:Nat):Int)==0&&(1:Int)==1&&(fS items.size items.size hi-fS items.size 0 lo)==items.size)=true):=by
  intro q;rw[Kt,Kt]at q;have q1:((fS items.size 0 lo:Nat):Int)=0:=eq_of_beq q.1.1;have q2:fS items.size items.size hi-fS items.size 0 lo=items.size:=eq_of_beq q.2;exact hw ⟨by omega,by omega⟩
 show wpAny _ _ (if (((fS items.size 0 lo:Nat):Int)==0&&(1:Int)==1&&(fS items.size items.size hi-fS items.size 0 lo)==items.size)=true then _ else _) _ _ s;rw[JU hno,BO];first
  |exact JR (m:=Builtin.Tuple.tupleExact _) (KM (JV ⟨_,rfl,JV h⟩) htake)
  |exact JR (m:=Builtin.Tuple.tupleExact _) (KM (JR (JV (JV ⟨_,rfl,JV h⟩))) htake)
  |exact JR (JR (m:=Builtin.Tuple.tupleExact _) (KM (JV (JV ⟨_,rfl,JV h⟩)) htake))
  |exact JR (JR (m:=Builtin.Tuple.tupleExact _) (KM (JV ⟨_,rfl,JV h⟩) htake))
end
end HT
namespace L2
open PySem PySem.Spec PyProof.Rows
variable{h h' h2 B:Heap}{k t' i j n ep kk:Nat}{v u pm cdv oc vl vu cls:Value}{a b it C sl L ea:Addr}{x name m qual:Str}{y:V}{E Q Qf:Value->Shared->Prop}{s s':Shared}{xs ys:List V}{us its its' args bm sub:List Value}{H H' H1:Hp}{o od oe:Obj}{P:Program}{e c tg iter value elt:Expr}{X:Cx}{pins p0 pe:List (Addr×Obj)}{g':Array GenState}{d':Drawn}{ch fp:List Addr}{M:Model}{pos pos' p tpos apos p2 cpos np:Pos}{ta te to tv td:TE}{op:CmpOp}{st:Stmt}{es:Array DictEntry}{g:TG}{body:List Stmt}{R:Result->Shared->Prop}{lo hi:Option Int}{pl:Sem Bool}{wi:TI}{D:Ends}{f:Value->Value->Sem Value}{r:V->Option Int->Option Int->Hp->VK->Prop}{dx an dd:Option Addr}{mA mN:Str->Option Value}{kw:List (Str×Value)}{fd:FuncData}{ps sn:List Str}{CX:G6}{sp:Sp}{kindOf:Str->Option NameKind}{sc scope:Scope}{osl:Array (Option Value)}{T newId:String}{items:Array Value}{cells:List (Str×Addr)}{ifs elts:List Expr}{tt:TT}{Qd:Hp->Prop}{kvs:List (KD×V)}{en:DictEntry}{use:Option (Value->Sem Unit)}{Eo:XS}{col:Option Bool}{k0 k1 k2 k3 k5:Option Value}
noncomputable abbrev TO:=St->Hp->(Option Int->Hp->Prop)->Prop
noncomputable def PO(X:Cx)(e:Option Expr)(t:TO):Prop :=
 ∀(pins:List (Addr×Obj)) (s:Shared) (σ:St) (H:Hp) (Q:Option Int->Hp->Prop),Inv X pins σ H s->t σ H Q ->
  wpAny (model X.prog X.w) X.A (evalPart e X.env) (fun u s'=>∃o H',Inv X pins σ H' s'/\IsPart u o/\Q o H') X.xe s
noncomputable def yW:TO:=fun _ H Q=>Q none H
noncomputable def Fc(t:TE):TO:=fun σ H Q=>t σ H fun x H1=>Cr x fun i=>Q (some i) H1
section
variable{lo hi:Option Expr}{tl th:TO}
theorem dO:PO X none yW:=by
 intro pins s σ H Q I h;rw[evalPart_none];exact JV ⟨none,H,I,.none,h⟩
theorem bD(h:PE X e te):PO X (some e) (Fc te):=by
 intro pins s σ H Q I hw;rw[evalPart_some];refine cO (h pins s σ H _ I hw) fun u s1 ⟨x,H1,I1,r1,q1⟩=>?_;obtain⟨i,rfl,q⟩:=jm q1;obtain⟨t,rfl⟩:=r1;exact⟨some i,H1,I1,.int i t,q⟩
noncomputable def ER(X:Cx)(r:V->Option Int->Option Int->Hp->VK->Prop):Prop :=
 ∀(pins:List (Addr×Obj)) (s:Shared) (σ:St) (H:Hp) (x:V) (v vl vu:Value) (lo hi:Option Int) (sl:Addr) (Q:VK),Inv X pins σ H s->RelV x v->s.heap.IsSliceOf sl vl vu .none->IsPart vl lo->IsPart vu hi->r x lo hi H Q ->
  ∃T id,typeLookup (.type T) "__getitem__"=pure (some (.builtin id))/\s.TypeIs v T/\wpAny (model X.prog X.w) X.A (getItem v (.ref sl)) (EP X pins σ Q) X.xe s
theorem ER.or{r':V->Option Int->Option Int->Hp->VK->Prop}(h:ER X r)(h':ER X r'):ER X (fun x lo hi H Q=>r x lo hi H Q\/r' x lo hi H Q):=by
 intro pins s σ H x v vl vu lo hi sl Q I rx hs pl pu q;rcases q with q|q
 .exact h pins s σ H x v vl vu lo hi sl Q I rx hs pl pu q
 .exact h' pins s σ H x v vl vu lo hi sl Q I rx hs pl pu q
noncomputable def Jt(r:V->Option Int->Option Int->Hp->VK->Prop)(te:TE)(tl th:TO):TE:=fun σ H Q=>te σ H fun x H1=>tl σ H1 fun l H2=>th σ H2 fun u H3=>r x l u H3 Q
theorem bF(hr:ER X r)(he:PE X e te)(hl:PO X lo tl)(hu:PO X hi th):PE X (.Subscript e (.Slice lo hi none p2) pos) (Jt r te tl th):=by
 intro pins s σ H Q I h;refine Subscript_ (cO (he pins s σ H _ I h) fun v s1 ⟨x,H1,I1,r1,q1⟩=>?_);refine wpAny_Slice (cO (hl pins s1 σ H1 _ I1 q1) fun vl s2 ⟨l,H2,I2,pl,q2⟩=>cO (hu pins s2 σ H2 _ I2 q2) fun vu s3 ⟨u,H3,I3,pu,q3⟩=>?_);rw[evalPart_none];refine JV ?_;have I4:Inv X pins σ H3 {s3 with heap:=s3.heap.push {cls:=.type "slice",data:=.fields #[vl,vu,.none]}}:=I3.kept (t':=s3.toks) fun b ob q=>JZ _ q;obtain⟨T,id,hT,ht,hg⟩:=hr pins {s3 with heap:=s3.heap.push {cls:=.type "slice",data:=.fields #[vl,vu,.none]}} σ H3 x v vl vu l u s3.heap.objs.size Q I4 r1 (Heap.IsSliceOf.new ..) pl pu q3;show wpAny (model X.prog X.w) X.A (subscriptTail e (.Slice lo hi none p2) v (.ref s3.heap.objs.size)) (EP X pins σ Q) X.xe {s3 with heap:=s3.heap.push {cls:=.type "slice",data:=.fields #[vl,vu,.none]}};exact tail_any (ops:=[.ref s3.heap.objs.size,v]) ht hT hg (by with_unfolding_all rfl)
noncomputable def fK(xs:List V)(lo hi:Option Int):List V:=(xs.drop (HT.fS xs.length 0 lo)).take (HT.fS xs.length xs.length hi-HT.fS xs.length 0 lo)
theorem ph(xs:List V)(lo hi:Option Int):(fK xs lo hi).length<=xs.length:=by
 unfold fK;rw[Kf,J4];lia
noncomputable def IH(K:Lq):V->Option Int->Option Int->Hp->VK->Prop:=fun x lo hi H Q=>∃a xs,x = .ref a/\gG K H a xs /\
 ¬(HT.fS xs.length 0 lo=0/\HT.fS xs.length xs.length hi=xs.length)/\∀p,H p=none->Q (.ref p) (upd H p (.tup (fK xs lo hi)))
theorem F4:ER X (IH X.K):=by
 intro pins s σ H x v vl vu lo hi sl Q I rx hs pl pu h;obtain⟨a,xs,rfl,hx,hw,q⟩:=h;cases rx;obtain⟨its,r,ht,hz⟩:=I.tuple hx;have hlen:its.toArray.size=xs.length:=by rw[Ke];exact r.length.symm
 refine⟨"tuple",_,PyProof.Rows.slot_tuple_getitem.lookup,ht.typeIs,?_⟩;refine HT.nD ht hs pl pu (by rw[hlen];exact hw) ?_ (by rw[hlen];exact hz);rw[hlen];refine⟨.ref s.heap.objs.size,_,I.laid (t':=s.toks) (o:=.tup (fK xs lo hi)) (fun b ob q=>JZ _ q) (JY _) ?_,rfl,q _ (I.hok.fresh (JY _))⟩;exact⟨KH (ph xs lo hi) hz,_,(r.drop (HT.fS xs.length 0 lo)).take (HT.fS xs.length xs.length hi-HT.fS xs.length 0 lo),IsTup.new _ _⟩
noncomputable def Fv(K:Lq):R2:=fun x y H Q=>∃a b xs ys,x = .ref a/\y = .ref b/\gG K H a xs/\gG K H b ys/\xs≠[]/\xs.length+ys.length<=sizeLine /\
 (ys=[]->Q (.ref a) H)/\(ys≠[]->∀p,H p=none->Q (.ref p) (upd H p (.tup (xs++ys))))
theorem aU.nil_iff(r:aU xs us):us=[]↔xs=[]:=by
 cases r with
 |nil=>simp
 |cons _ _=>simp
theorem lI:ki X (binaryOp .Add) (Fv X.K):=by
 intro pins s σ H x y v u Q I rx ry h;obtain⟨a,b,xs,ys,rfl,rfl,ha,hb,hx,hz,q1,q2⟩:=h;cases rx;cases ry;obtain⟨its,r1,p1,_⟩:=I.tuple ha;obtain⟨its2,r2,p2,_⟩:=I.tuple hb;refine HT.EK p1 p2 (fun z=>hx (r1.nil_iff.mp z)) (fun z=>⟨.ref a,H,I,rfl,q1 (r2.nil_iff.mp z)⟩) (fun z=>?_) (by rw[<-r1.length,<-r2.length];exact hz);refine⟨.ref s.heap.objs.size,_,I.laid (t':=s.toks) (o:=.tup (xs++ys)) (fun b ob q=>JZ _ q) (JY _) ?_,rfl,q2 (fun w=>z (r2.nil_iff.mpr w)) _ (I.hok.fresh (JY _))⟩;exact⟨by rw[JT];exact hz,_,r1.append r2,IsTup.new _ _⟩
end
noncomputable def Dw(n:Nat)(i:Int):Option Nat:=if 0<=i then(if i<n then some i.toNat else none) else if -(n:Int)<=i then some (i+n).toNat else none
noncomputable def xn{α:Type}(xs:List α)(i:Int):Option α:=(Dw xs.length i).bind fun j=>xs[j]?
theorem zy{i:Int}(h:Dw n i=some j):seqIndex? i n=some j/\j<n/\ -(n:Int)<=i/\i<n:=by
 unfold Dw at h;by_cases h0:0<=i
 .rw[JX h0]at h;by_cases h1:i<n
  .rw[JX h1]at h;have e:i.toNat=j:=Ku h;exact⟨by rw[seqIndex_of h0 h1,e],by lia,by lia,h1⟩
  .rw[JU h1]at h;cases h
 .rw[JU h0]at h;by_cases h1 : -(n:Int)<=i
  .rw[JX h1]at h;have e:(i+n).toNat=j:=Ku h;exact⟨by rw[seqIndex_neg (by lia) h1,e],by lia,h1,by lia⟩
  .rw[JU h1]at h;cases h
theorem zU{α:Type}{xs:List α}{i:Int}{v:α}(h:xn xs i=some v):∃j,seqIndex? i xs.length=some j/\xs[j]?=some v/\j<xs.length/\ -(xs.length:Int)<=i/\i<xs.length:=by
 unfold xn at h;cases e:Dw xs.length i with
 |none=>rw[e]at h;cases h
 |some j =>
  rw[e]at h;obtain⟨h1,h2,h3,h4⟩:=zy e;exact⟨j,h1,h,h2,h3,h4⟩
theorem bG{α:Type}{xs:List α}{v:α}(h:xs[j]?=some v):xn xs (j:Int)=some v:=by
 have hj:j<xs.length:=(JW.mp h).1;have e:Dw xs.length (j:Int)=some j:=by
  unfold Dw;rw[JX (by lia),JX (by lia)];simp
 unfold xn;rw[e];exact h
theorem Dd{α:Type}(xs:List α)(v:α):xn (xs++[v]) (-1)=some v:=by
 have hl:(xs++[v]).length=xs.length+1:=by simp
 have e:Dw (xs++[v]).length (-1)=some xs.length:=by
  unfold Dw;rw[hl,JU (by decide),JX (by lia)];congr 1;lia
 unfold xn;rw[e];show(xs++[v])[xs.length]?=some v;simp
noncomputable def zY(b:Expr):Prop:=∀o i,subscripted b false o i=operate [o,i] (getItem o i)
noncomputable def ID(X:Cx)(r:R2):Prop :=
 ∀(value slice:Expr) (pins:List (Addr×Obj)) (s:Shared) (σ:St) (H:Hp) (x y:V) (v u:Value) (Q:VK),Inv X pins σ H s->RelV x v->RelV y u->r x y H Q ->
  subscripted slice false v u=operate [v,u] (getItem v u)->wpAny (model X.prog X.w) X.A (subscriptTail value slice v u) (EP X pins σ Q) X.xe s
noncomputable def JM(X:Cx)(id:String)(r:V->List V->Hp->VK->Prop):Prop :=
 ∀(pins:List (Addr×Obj)) (s:Shared) (σ:St) (H:Hp) (x:V) (xs:List V) (v:Value) (us:List Value) (Q:VK),Inv X pins σ H s->RelV x v->aU xs us->r x xs H Q ->
  wpAny (model X.prog X.w) X.A (call (.builtin id) (v::us)) (EP X pins σ Q) X.xe s
section
variable{a b:Expr}{tb:TE}
theorem HG{r:R2}(hr:ID X r)(ha:PE X a ta)(hb:PE X b tb)(hs:zY b):PE X (.Subscript a b pos) (FP r ta tb):=by
 intro pins s σ H Q I h;exact Subscript_ (GW ha hb I h fun v u s2 x y H2 I2 rx ry q=>hr a b pins s2 σ H2 x y v u Q I2 rx ry q (hs _ _))
noncomputable def HF(K:Lq):R2:=fun x y H Q=>∃p xs i v,x = .ref p/\y = .int i/\aY K H p xs/\xn xs i=some v/\Q v H
noncomputable def DZ(K:Lq):R2:=fun x y H Q=>∃p xs i v,x = .ref p/\y = .int i/\gG K H p xs/\xn xs i=some v/\Q v H
theorem cH:ID X (HF X.K):=by
 intro value slice pins s σ H x y v u Q I rx ry h hs;obtain⟨p,xs,i,z,rfl,rfl,hq,he,q⟩:=h;cases rx;obtain⟨t,rfl⟩:=ry;obtain⟨its,r,pl,hz⟩:=I.list hq;obtain⟨j,h1,h2,h3,h4,h5⟩:=zU he;obtain⟨w,ew,rw'⟩:=r.get h2;have hl:=r.length;have hn:=uF;have fin:EP X pins σ Q w s:=⟨z,H,I,rw',q⟩
 by_cases h0:0<=i
 .have hj:i.toNat=j:=by
   rw[seqIndex_of h0 h5]at h1;exact Ku h1
  exact item_listR pl.isList h0 (by lia) (by rw[hj];simpa using ew) fin hs
 .have hj:(i+(its.toArray.size:Int)).toNat=j:=by
   rw[seqIndex_neg (by lia) h4]at h1;rw[Ke,<-hl];exact Ku h1
  exact subscriptTail_builtinR (x:=w) pl.isList.typeIs slot_list_getitem.lookup
   (wpAny_getItem_list_neg (Q:=fun r s'=>r=w/\EP X pins σ Q r s') pl.isList (by lia) (by rw[Ke]<;>lia) (by lia) (by rw[hj];simpa using ew) ⟨rfl,fin⟩) hs
theorem dG:ID X (DZ X.K):=by
 intro value slice pins s σ H x y v u Q I rx ry h hs;obtain⟨p,xs,i,z,rfl,rfl,hq,he,q⟩:=h;cases rx;obtain⟨t,rfl⟩:=ry;obtain⟨its,r,pl,hz⟩:=I.tuple hq;obtain⟨j,h1,h2,h3,h4,h5⟩:=zU he;obtain⟨w,ew,rw'⟩:=r.get h2;have hl:=r.length;have hn:=uF;have fin:EP X pins σ Q w s:=⟨z,H,I,rw',q⟩
 exact subscriptTail_builtinR (x:=w) pl.typeIs slot_tuple_getitem.lookup
  (getItem_tuple (j:=j) (Q:=fun r s'=>r=w/\EP X pins σ Q r s') pl (by lia) (by lia) (by rw[Ke,<-hl];exact h1) (by simpa using ew) ⟨rfl,fin⟩) hs
theorem yn(its:List Value)(n j:Nat)(u:Value):Obj.mapSeq (·.setIfInBounds j u) {cls:=.type "list",data:=.seq its.toArray n}={cls:=.type "list",data:=.seq (its.set j u).toArray n}:=by
 simp[Obj.mapSeq]
theorem Inv.lst{σ:St}{p:Addr}(I:Inv X pins σ H s)(h:H p=some (.lst xs)):
  ∃(its:List Value) (n:Nat),aU xs its/\s.heap.get? p=some {cls:=.type "list",data:=.seq its.toArray n}/\xs.length<=sizeLine:=by
 obtain⟨z,its,n,r,e⟩:=I.hok p _ h;exact⟨its,n,r,e,z⟩
theorem Inv.lstUpd{σ:St}{p:Addr}{n':Nat}{f:Obj->Obj}(I:Inv X pins σ H s)(h:H p=some (.lst xs))(ho:s.heap.get? p=some {cls:=.type "list",data:=.seq its.toArray n})(hf:f {cls:=.type "list",data:=.seq its.toArray n}={cls:=.type "list",data:=.seq its'.toArray n'})(r:aU ys its')(hz:ys.length<=sizeLine)(t:Nat):
  Inv X pins σ (upd H p (.lst ys)) {s with heap:=s.heap.update p f,toks:=t}:=by
 have e:(s.heap.update p f).get? p=some {cls:=.type "list",data:=.seq its'.toArray n'}:=by
  rw[KA f ho (by rw[hf]<;>rfl),hf]
 refine I.write (x:=p) (e:=p) (by rw[h];trivial) (.inl rfl) (fun b u hb q=>(KF _ _ (Ne.symm hb)).trans q) ⟨_,e⟩ ?_;exact⟨hz,its',n',r,e⟩
noncomputable def Fu:V->V->V->Hp->(Hp->Prop)->Prop:=fun o i v H Q=>∃p xs k j,o = .ref p/\i = .int k/\H p=some (.lst xs)/\Dw xs.length k=some j/\Q (upd H p (.lst (xs.set j v)))
theorem set_list:Il X Fu:=by
 intro pins s σ H o i v ov iv u Q I ro ri rv h;obtain⟨p,xs,k,j,rfl,rfl,hp,hj,q⟩:=h;cases ro;obtain⟨t,rfl⟩:=ri;obtain⟨its,n,r,ho,hz⟩:=I.lst hp;obtain⟨h1,h2,h3,h4⟩:=zy hj;have hl:=r.length;have hn:=uF;have I':Inv X pins σ (upd H p (.lst (xs.set j v))) {s with heap:=s.heap.update p (Obj.mapSeq (·.setIfInBounds j u))} :=
  I.lstUpd hp ho (yn its n j u) (r.set rv j) (by rw[List.length_set];exact hz) s.toks
 by_cases h0:0<=k
 .have hk:k.toNat=j:=by
   rw[seqIndex_of h0 h4]at h1;exact Ku h1
  exact PySem.W.ki_setAt ho h0 (by lia) (by rw[Ke,<-hl];exact h4) (by rw[hk];exact⟨_,I',q⟩)
 .have hk:(k+(its.toArray.size:Int)).toNat=j:=by
   rw[seqIndex_neg (by lia) h3]at h1;rw[Ke,<-hl];exact Ku h1
  exact PySem.W.ki_setBack ho (by lia) (by rw[Ke,<-hl];exact h3) (by lia) (by rw[hk];exact⟨_,I',q⟩)
theorem t8(lo hi:Option Int)(n:Nat):(sliceBounds lo hi none n).1=((HT.fS n 0 lo:Nat):Int)/\(sliceBounds lo hi none n).2.1=((HT.fS n n hi:Nat):Int)/\(sliceBounds lo hi none n).2.2=1:=by
 refine⟨?_,?_,rfl⟩
 .cases lo with
  |none=>simp[sliceBounds,HT.fS]
  |some i =>
   simp only[sliceBounds,HT.fS,Option.getD_none,show(1:Int)>0 by decide,if_true];by_cases h:i<0
   .simp only[h,if_true]<;>lia
   .simp only[h,if_false]<;>lia
 .cases hi with
  |none=>simp[sliceBounds,HT.fS]
  |some i =>
   simp only[sliceBounds,HT.fS,Option.getD_none,show(1:Int)>0 by decide,if_true];by_cases h:i<0
   .simp only[h,if_true]<;>lia
   .simp only[h,if_false]<;>lia
theorem rS(its:List Value)(lo hi:Option Int):slicePick its.toArray lo hi none=((its.drop (HT.fS its.length 0 lo)).take (HT.fS its.length its.length hi-HT.fS its.length 0 lo)).toArray:=by
 obtain⟨h1,h2,h3⟩:=t8 lo hi its.toArray.size;unfold slicePick;rw[h1,h2,h3];simp only[sliceRange_one,pick_run,Ke]<;>rfl
noncomputable def qy(K:Lq):V->Option Int->Option Int->Hp->VK->Prop:=fun x lo hi H Q=>∃a xs,x = .ref a/\aY K H a xs/\∀p,H p=none->Q (.ref p) (upd H p (.lst (fK xs lo hi)))
theorem f9:ER X (qy X.K):=by
 intro pins s σ H x v vl vu lo hi sl Q I rx hs pl pu h;obtain⟨a,xs,rfl,hx,q⟩:=h;cases rx;obtain⟨its,r,ht,hz⟩:=I.list hx;have hlen:=r.length;refine⟨"list",_,slot_list_getitem.lookup,ht.isList.typeIs,?_⟩;refine wpAny_getItem_list_slice ht.isList hs pl pu .none (by simp) ?_ (by rw[Ke]<;>lia);rw[rS,<-hlen];refine⟨.ref s.heap.objs.size,_,I.laid (t':=s.toks) (o:=.lst (fK xs lo hi)) (fun b ob q=>JZ _ q) (JY _) ?_,rfl,q _ (I.hok.fresh (JY _))⟩;exact⟨KH (ph xs lo hi) hz,_,0,(r.drop (HT.fS xs.length 0 lo)).take (HT.fS xs.length xs.length hi-HT.fS xs.length 0 lo),J6 _ rfl⟩
noncomputable def mj:V->Bool
 |.non=>true
 |.bl _=>true
 |.int _=>true
 |.str _=>true
 |_=>false
noncomputable def CO:V->V->Bool
 |.non,.non=>true
 |.bl a,.bl b=>a==b
 |.bl a,.int b=>(if a then 1 else 0)==b
 |.int a,.bl b=>a==(if b then 1 else 0)
 |.int a,.int b=>a==b
 |.str a,.str b=>a==b
 |_,_=>false
theorem GJ{A:Around}{x:V}(ry:RelV y u)(rx:RelV x v)(fy:mj y=true)(fx:mj x=true):SeqAt.EqAt A s u v (CO y x):=by
 cases y with
 |non =>
  cases ry;cases x with
  |non=>cases rx;exact SeqAt.EqAt.same _
  |bl b=>cases rx;exact SeqAt.EqAt.none_bool b
  |int b=>obtain⟨t,rfl⟩:=rx;exact SeqAt.EqAt.none_int b t
  |str b=>obtain⟨t,rfl⟩:=rx;exact SeqAt.EqAt.none_str b t
  |_=>exact absurd (show false=true from fx) J9
 |bl a =>
  cases ry;cases x with
  |non=>cases rx;exact SeqAt.EqAt.bool_none a
  |bl b=>cases rx;exact SeqAt.EqAt.bool_bool a b
  |int b=>obtain⟨t,rfl⟩:=rx;exact SeqAt.EqAt.bool_int a b t
  |str b=>obtain⟨t,rfl⟩:=rx;exact SeqAt.EqAt.bool_str a b t
  |_=>exact absurd (show false=true from fx) J9
 |int a =>
  obtain⟨t',rfl⟩:=ry;cases x with
  |non=>cases rx;exact SeqAt.EqAt.int_none a t'
  |bl b=>cases rx;exact SeqAt.EqAt.int_bool a t' b
  |int b=>obtain⟨t,rfl⟩:=rx;exact SeqAt.EqAt.int_int a t' b t
  |str b=>obtain⟨t,rfl⟩:=rx;exact SeqAt.EqAt.int_str a t' b t
  |_=>exact absurd (show false=true from fx) J9
 |str a =>
  obtain⟨t',rfl⟩:=ry;cases x with
  |non=>cases rx;exact SeqAt.EqAt.str_none a t'
  |bl b=>cases rx;exact SeqAt.EqAt.str_bool a t' b
  |int b=>obtain⟨t,rfl⟩:=rx;exact SeqAt.EqAt.str_int a t' b t
  |str b=>obtain⟨t,rfl⟩:=rx;exact SeqAt.EqAt.str_str a t' b t
  |_=>exact absurd (show false=true from fx) J9
 |_=>exact absurd (show false=true from fy) J9
noncomputable def yC(x:V)(u:Value):Bool:=match u with
 |.none=>CO .non x
 |.bool b=>CO (.bl b) x
 |.int i _=>CO (.int i) x
 |.str z _=>CO (.str z) x
 |_=>false
theorem CP{x:V}(r:RelV y u)(f:mj y=true):yC x u=CO y x:=by
 cases y with
 |non=>cases r;rfl
 |bl b=>cases r;rfl
 |int i=>obtain⟨t,rfl⟩:=r;rfl
 |str z=>obtain⟨t,rfl⟩:=r;rfl
 |_=>exact absurd (show false=true from f) J9
theorem nV{x:V}:∀{xs:List V} {us:List Value},aU xs us->xs.all mj=true->us.any (yC x)=xs.any fun y=>CO y x
 |_,_,.nil,_=>rfl
 |y::xs,u::us,.cons r t,f=>by
  rw[K3,Kt]at f;rw[K0,K0,CP r f.1,nV t f.2]
theorem kP{A:Around}{x:V}(rx:RelV x v)(fx:mj x=true):∀{xs:List V} {us:List Value},aU xs us->xs.all mj=true->∀u∈us,SeqAt.EqAt A s u v (yC x u)
 |_,_,.nil,_=>fun u hu=>by cases hu
 |y::xs,u::us,.cons r t,f=>fun u' hu=>by
  rw[K3,Kt]at f;rcases Kg.mp hu with rfl|hu
  .rw[CP r f.1];exact GJ r rx f.1 fx
  .exact kP rx fx t f.2 u' hu
noncomputable def zA(x:V)(xs:List V):Bool:=xs.any fun y=>CO y x
noncomputable def G8(K:Lq)(neg:Bool):R2:=fun x y H Q=>∃p xs,y = .ref p/\(aY K H p xs\/gG K H p xs)/\mj x=true/\xs.all mj=true/\Q (.bl (if neg then !zA x xs else zA x xs)) H
theorem Ap:ki X (compareOp .In) (G8 X.K false):=by
 intro pins s σ H x y v u Q I rx ry h;obtain⟨p,xs,rfl,hq,fx,fs,q⟩:=h;cases ry;rcases hq with hq|hq
 .obtain⟨its,r,pl,hz⟩:=I.list hq;refine SeqAt.in_listAt (yC x) pl.isList (fun w hw=>kP rx fx r fs w (by simpa using hw)) ⟨.bl _,H,I,rfl,?_⟩;rw[show its.toArray.any (yC x)=its.any (yC x) by simp,nV r fs];exact q
 .obtain⟨its,r,pl,hz⟩:=I.tuple hq;refine SeqAt.in_tupleAt (yC x) pl (fun w hw=>kP rx fx r fs w (by simpa using hw)) ⟨.bl _,H,I,rfl,?_⟩;rw[show its.toArray.any (yC x)=its.any (yC x) by simp,nV r fs];exact q
theorem uq:ki X (compareOp .NotIn) (G8 X.K true):=by
 intro pins s σ H x y v u Q I rx ry h;obtain⟨p,xs,rfl,hq,fx,fs,q⟩:=h;cases ry;rcases hq with hq|hq
 .obtain⟨its,r,pl,hz⟩:=I.list hq;refine SeqAt.notIn_listAt (yC x) pl.isList (fun w hw=>kP rx fx r fs w (by simpa using hw)) ⟨.bl _,H,I,rfl,?_⟩;rw[show its.toArray.any (yC x)=its.any (yC x) by simp,nV r fs];exact q
 .obtain⟨its,r,pl,hz⟩:=I.tuple hq;refine SeqAt.notIn_tupleAt (yC x) pl (fun w hw=>kP rx fx r fs w (by simpa using hw)) ⟨.bl _,H,I,rfl,?_⟩;rw[show its.toArray.any (yC x)=its.any (yC x) by simp,nV r fs];exact q
theorem u9:iq X (.builtin "len") (fun xs H Q=>∃p ys,xs=[.ref p]/\(aY X.K H p ys\/gG X.K H p ys)/\Q (.int ys.length) H):=by
 intro pins s σ H xs us Q I r h;obtain⟨p,ys,rfl,hq,q⟩:=h;obtain⟨u,rfl,rx⟩:=vals1 r;cases rx;have hn:=uF;rcases hq with hq|hq
 .obtain⟨its,r',pl,hz⟩:=I.list hq;have hlen:=r'.length;exact Calls.call_len_list pl.isList (by simp only[Ke]<;>lia) ⟨.int ys.length,H,I.tok _,⟨s.toks+1,by rw[Ke,hlen]⟩,q⟩
 .obtain⟨its,r',pl,hz⟩:=I.tuple hq;have hlen:=r'.length;exact len_tuple pl (by simp only[Ke]<;>lia) ⟨.int ys.length,H,I.tok _,⟨s.toks+1,by rw[Ke,hlen]⟩,q⟩
theorem u7:iq X (.type "list") (fun xs H Q=>∃p ys,xs=[.ref p]/\(aY X.K H p ys\/gG X.K H p ys)/\∀l,H l=none->Q (.ref l) (upd H l (.lst ys))):=by
 intro pins s σ H xs us Q I r h;obtain⟨p,ys,rfl,hq,q⟩:=h;obtain⟨u,rfl,rx⟩:=vals1 r;cases rx;have fin:∀(its:List Value),aU ys its->ys.length<=sizeLine->∀(h':Heap) (c':Nat),(∀b o',s.heap.get? b=some o'->h'.get? b=some o') ->
   h'.get? s.heap.objs.size=some {cls:=.type "list",dict:=none,data:=.seq its.toArray c',slots:= #[]}->EP X pins σ Q (.ref s.heap.objs.size) {s with heap:=h'}:=fun its r' hz h' c' kp e =>
  ⟨.ref s.heap.objs.size,_,I.laid (t':=s.toks) kp (JY _) (show d0 X.prog X.w _ h' _ (.lst ys) from⟨hz,its,c',r',e⟩),rfl,q _ (I.hok.fresh (JY _))⟩
 rcases hq with hq|hq
 .obtain⟨its,r',pl,hz⟩:=I.list hq;have hlen:=r'.length;obtain⟨o,ho,hc,n,hd⟩:=pl.isList;exact call_list_seq p (.inl rfl) ho hc hd (fun h' c' kp e=>fin its r' hz h' c' kp e) (by simp only[Ke]<;>lia)
 .obtain⟨its,r',pl,hz⟩:=I.tuple hq;have hlen:=r'.length;obtain⟨o,ho,hc,n,hd⟩:=pl;exact call_list_seq p (.inr rfl) ho hc hd (fun h' c' kp e=>fin its r' hz h' c' kp e) (by simp only[Ke]<;>lia)
theorem sG:iq X (.type "tuple") (fun xs H Q=>∃p ys,xs=[.ref p]/\((aY X.K H p ys/\∀l,H l=none->Q (.ref l) (upd H l (.tup ys)))\/(gG X.K H p ys/\Q (.ref p) H))):=by
 intro pins s σ H xs us Q I r h;obtain⟨p,ys,rfl,h⟩:=h;obtain⟨u,rfl,rx⟩:=vals1 r;cases rx;rcases h with⟨hq,q⟩|⟨hq,q⟩
 .obtain⟨its,r',pl,hz⟩:=I.list hq;have hlen:=r'.length;refine call_tuple_list pl.isList (fun h' kp=>?_) (by simp only[Ke]<;>lia);have I1:Inv X pins σ H {s with heap:=h'}:=I.kept (t':=s.toks) kp;have I2:Inv X pins σ (upd H h'.objs.size (.tup ys)) {s with heap:=h'.push {cls:=.type "tuple",data:=.seq its.toArray}} :=
   I1.laid (t':=s.toks) (fun b o e=>JZ _ e) (JY _) (show d0 X.prog X.w _ _ _ (.tup ys) from⟨hz,its,r',IsTup.new _ _⟩)
  exact⟨.ref h'.objs.size,_,I2,rfl,q _ (I1.hok.fresh (JY _))⟩
 .obtain⟨its,r',pl,hz⟩:=I.tuple hq;exact call_tuple_same pl ⟨.ref p,H,I,rfl,q⟩
noncomputable def AX(K:Lq)(T:String)(x:V)(H:Hp):Prop:=match x with
 |.str _=>T="str"
 |.int _=>T="int"
 |.ref p=>(T="list"/\∃xs,aY K H p xs)\/(T="tuple"/\∃o,K.lookup p=some o/\o.cls = .type "tuple"/\o.dict=none) \/
   (T="dict"/\((∃kvs,H p=some (.dK kvs))\/∃kvs,H p=some (.dT kvs)))\/(T="set"/\∃S n,H p=some (.set S n))
 |_=>False
theorem FM{σ:St}{x:V}(I:Inv X pins σ H s)(r:RelV x v)(ty:AX X.K T x H):
  s.TypeIs v T/\∀a,v = .ref a->∃ob,s.heap.get? a=some ob/\ob.dict=none:=by
 cases x with
 |str z =>
  obtain⟨t,rfl⟩:=r;cases (show T="str" from ty);exact⟨typeIs_str s z t,fun _ e=>nomatch e⟩
 |int i =>
  obtain⟨t,rfl⟩:=r;cases (show T="int" from ty);exact⟨typeIs_int s i t,fun _ e=>nomatch e⟩
 |ref p =>
  cases r;rcases ty with⟨rfl,xs,hq⟩|⟨rfl,o,hk,hc,hd⟩|⟨rfl,hk⟩|⟨rfl,S,n,hk⟩
  .obtain⟨its,_,pl,_⟩:=I.list hq;refine⟨pl.isList.typeIs,fun a e=>?_⟩;cases e;obtain⟨o,n,e,c,hd,_⟩:=pl;exact⟨o,e,hd⟩
  .refine⟨⟨o,I.kIn p o hk,hc⟩,fun a e=>?_⟩;cases e;exact⟨o,I.kIn _ o hk,hd⟩
  .have z:∃o,s.heap.get? p=some o/\o.ExactDict:=by
    rcases hk with⟨kvs,hk⟩|⟨kvs,hk⟩
    .obtain⟨_,_,_,_,o,_,_,e,ex,_⟩:=I.hok p _ hk;exact⟨o,e,ex⟩
    .obtain⟨_,_,_,_,o,_,_,e,ex,_⟩:=I.hok p _ hk;exact⟨o,e,ex⟩
   obtain⟨o,e,ex⟩:=z;refine⟨⟨o,e,ex.1⟩,fun a e2=>?_⟩;cases e2;exact⟨o,e,ex.2.1⟩
  .obtain⟨o,_,_,_,e,ex,_⟩:=I.hok p _ hk;refine⟨⟨o,e,ex.1⟩,fun a e2=>?_⟩;cases e2;exact⟨o,e,ex.2.1⟩
 |_=>exact False.elim ty
noncomputable def Jw(K:Lq)(T:String)(r:V->List V->Hp->VK->Prop)(to:TE)(t:TA):TE:=fun σ H Q=>to σ H fun x H1=>AX K T x H1/\t σ H1 fun xs H2=>r x xs H2 Q
variable{o:Expr}{es:List Expr}{t:TA}{id:String}{r:V->List V->Hp->VK->Prop}
theorem fo(pa:PlainAttrs T)(slot:Slot T name id)(hty:typeOf (.builtin id)=pure (.type "method_descriptor"))(hm:JM X id r)(ho:PE X o to)(ha:PA X (e::es) t)(hbase:attributeBase o name X.env (eval o X.env)=eval o X.env:=by rfl)(hfew:((backTo cpos (starEach (e::es) X.env)).all (fun x=>!x.1)&&(backToKw cpos (keywordEach [] X.env)).all (fun x=>x.1.isSome)
   && decide ((e::es).length+([]:List Keyword).length+(if ([]:List Keyword).isEmpty then 0 else 1)<30))=true:=by rfl)(hline:(apos.endLine==cpos.line)=true:=by rfl)(hs:starEach (e::es) X.env=(false,eval e X.env)::starEach es X.env:=by rfl)(hplain:(backTo cpos (starEach es X.env)).any (·.1)=false:=by rfl):
  PE X (.Call (.Attribute o name apos) (e::es) [] cpos) (Jw X.K T r to t):=by
 intro pins s σ H Q I h;refine wpAny_Call_method_late hbase hfew hline rfl (cO (ho pins s σ H _ I h) fun v s1 ⟨x,H1,I1,r1,ty,q1⟩=>?_);obtain⟨h1,h2⟩:=FM I1 r1 ty;refine⟨T,id,pa,slot,hty,h1,h2,?_⟩;have hA:=ha cpos pins s1 σ H1 _ I1 q1;rw[hs]at hA ⊢;refine Calls.callWith_builtin (by show(false||(backTo cpos (starEach es X.env)).any (·.1))=false;rw[hplain]<;>rfl) (Calls.evalArgs_plain ?_);exact cO hA fun us s2 ⟨vs,H2,I2,r2,q2⟩=>hm pins s2 σ H2 x vs v us Q I2 r1 r2 q2
end
noncomputable def Jp(X:Cx)(id:String)(r:V->List V->Hp->VK->Prop):Prop :=
 ∀(pins:List (Addr×Obj)) (s:Shared) (σ:St) (H:Hp) (x:V) (xs:List V) (v:Value) (us:List Value) (Q:VK),Inv X pins σ H s->RelV x v->aU xs us->r x xs H Q ->
  wpAny (model X.prog X.w) X.A (call (.builtin id) (v::us)) (EP X pins σ Q) X.xe s
theorem aU.one:∀{x:V} {us:List Value},aU [x] us->∃u,us=[u]/\RelV x u
 |_,_,.cons r .nil=>⟨_,rfl,r⟩
theorem aU.rep(h:aU xs us):∀k:Nat,aU (List.replicate k xs).flatten (List.replicate k us).flatten
 |0=>.nil
 |k+1=>by
  rw[Le,Le,List.flatten_cons,List.flatten_cons];exact aU.append h (aU.rep h k)
theorem foldl_rep(its:List Value):∀(k:Nat) (acc:List Value),
  List.foldl (fun x1 x2=>x1++x2) acc.toArray (List.replicate k its.toArray)=(acc++(List.replicate k its).flatten).toArray
 |0,acc=>by simp
 |k+1,acc=>by
  have e:acc.toArray++its.toArray=(acc++its).toArray:=by simp
  have e2:(acc++its)++(List.replicate k its).flatten=acc++(List.replicate (k+1) its).flatten:=by
   rw[Le,List.flatten_cons,Kx]
  rw[<-e2,<-foldl_rep its k (acc++its),<-e,Le,Li]
section
variable{σ:St}{l:Addr}{zs:List V}
theorem Inv.lset{f:Array Value->Array Value}(I:Inv X pins σ H s)(hH:H l=some (.lst xs))(e:s.heap.get? l=some {cls:=.type "list",data:=.seq its.toArray n})(hf:f its.toArray=its'.toArray)(hv:aU ys its')(hz:ys.length<=sizeLine):
  Inv X pins σ (upd H l (.lst ys)) {s with heap:=s.heap.update l (Obj.mapSeq f),toks:=t'}:=by
 have q:=PySem.IsL.update e f;rw[hf]at q;refine I.write (x:=l) (e:=l) (by rw[hH];exact trivial) (.inl rfl) (fun b' u hb hu=>(KF s.heap (Obj.mapSeq f) (Ne.symm hb)).trans hu) ⟨_,q⟩ ?_;exact⟨hz,its',_,hv,q⟩
theorem Inv.lnew(I:Inv X pins σ H s)(hv:aU ys its)(hz:ys.length<=sizeLine):
  Inv X pins σ (upd H s.heap.objs.size (.lst ys)) {s with heap:=s.heap.push {cls:=.type "list",data:=.seq its.toArray},toks:=t'} :=
 I.laid (fun _ _ q=>JZ _ q) (JY _) ⟨hz,its,0,hv,J6 _ rfl⟩
theorem Inv.fresh(I:Inv X pins σ H s):H s.heap.objs.size=none:=I.hok.fresh (JY _)
theorem Inv.lstM(I:Inv X pins σ H s)(hH:H l=some (.lst xs)):xs.length<=sizeLine/\∃(its:List Value) (n:Nat),aU xs its/\xs.length=its.length/\s.heap.get? l=some {cls:=.type "list",data:=.seq its.toArray n}:=by
 obtain⟨z,its,n,r,e⟩:=I.hok l _ hH;exact⟨z,its,n,r,r.length,e⟩
theorem qP(h:n<=sizeLine):Builtin.List.listTooLong n=false:=by
 unfold Builtin.List.listTooLong;exact Kl (by lia)
end
section
noncomputable def iB:V->List V->Hp->VK->Prop:=fun x vs H Q=>∃l xs y,x = .ref l/\vs=[y]/\H l=some (.lst xs)/\xs.length<sizeLine/\Q .non (upd H l (.lst (xs++[y])))
theorem fz:Jp X "list.append" iB:=by
 intro pins s σ H x vs v us Q I rx rv h;obtain⟨l,xs,y,rfl,rfl,hH,hz,q⟩:=h;cases rx;obtain⟨u,rfl,ru⟩:=rv.one;obtain⟨z,its,n,r,hl,e⟩:=I.lstM hH;refine call_meets F.slot_list_append ⟨_,e,rfl⟩ F.entry_list_append (F.args_list_append_2 _ _) (PySem.list_append l its.toArray n u (by rw[Ke];lia)) ⟨e,?_⟩;refine⟨.non,_,I.lset (its':=its++[u]) hH e (by simp) (r.append (.cons ru .nil)) ?_,rfl,q⟩;rw[JT,List.length_singleton];lia
noncomputable def ug:V->List V->Hp->VK->Prop:=fun x vs H Q=>∃l b xs zs,x = .ref l/\vs=[.ref b]/\H l=some (.lst xs)/\H b=some (.lst zs)/\xs.length+zs.length<=sizeLine/\Q .non (upd H l (.lst (xs++zs)))
theorem jB:Jp X "list.extend" ug:=by
 intro pins s σ H x vs v us Q I rx rv h;obtain⟨l,b,xs,zs,rfl,rfl,hH,hB,hz,q⟩:=h;cases rx;obtain⟨u,rfl,ru⟩:=rv.one;cases ru;obtain⟨z,its,n,r,hl,e⟩:=I.lstM hH;obtain⟨z2,its2,n2,r2,hl2,e2⟩:=I.lstM hB;have hsz:its.toArray.size+its2.toArray.size<=sizeLine:=by rw[Ke,Ke];lia
 have hlong:¬(!its.toArray.isEmpty&&Builtin.List.listTooLong (its.toArray.size+its2.toArray.size))=true:=by
  rw[qP hsz,Bool.and_false];exact J9
 refine call_meets F.slot_list_extend ⟨_,e,rfl⟩ F.entry_list_extend (F.args_list_extend_2 _ _)
  (AutoSeq1.list_extend_list_list_0 l its.toArray n b its2.toArray n2 hlong (by rw[Ke];lia) (by lia)) ⟨e,e2,?_⟩
 refine⟨.non,_,I.lset (its':=its++its2) hH e (by simp) (r.append r2) ?_,rfl,q⟩;rw[JT];lia
noncomputable def uh:R2:=fun x y H Q=>∃l b xs zs,x = .ref l/\y = .ref b/\H l=some (.lst xs)/\H b=some (.lst zs)/\xs.length+zs.length<=sizeLine/\∀p,H p=none->Q (.ref p) (upd H p (.lst (xs++zs)))
theorem kE:ki X (binaryOp .Add) uh:=by
 intro pins s σ H x y v u Q I rx ry h;obtain⟨l,b,xs,zs,rfl,rfl,hH,hB,hz,q⟩:=h;cases rx;cases ry;obtain⟨z,its,n,r,hl,e⟩:=I.lstM hH;obtain⟨z2,its2,n2,r2,hl2,e2⟩:=I.lstM hB;refine PySem.P.add_list e e2 ?_ (by rw[Ke,Ke];lia);have ea:its.toArray++its2.toArray=(its++its2).toArray:=by simp
 rw[ea];exact⟨.ref _,_,I.lnew (t':=s.toks) (r.append r2) (by rw[JT];lia),rfl,q _ I.fresh⟩
noncomputable def HE:R2:=fun x y H Q=>∃l k xs,x = .ref l/\y = .int k/\H l=some (.lst xs)/\ -(2^63)<=k/\k<2^63/\xs.length*k.toNat<=sizeLine /\
 ∀p,H p=none->Q (.ref p) (upd H p (.lst (List.replicate k.toNat xs).flatten))
theorem len_rep{α:Type}(xs:List α)(k:Nat):(List.replicate k xs).flatten.length=k*xs.length:=by
 induction k with
 |zero=>simp
 |succ k ih=>rw[Le,List.flatten_cons,JT,ih,Nat.succ_mul,Nat.add_comm]
theorem B3:ki X (binaryOp .Mult) HE:=by
 intro pins s σ H x y v u Q I rx ry h;obtain⟨l,k,xs,rfl,rfl,hH,h1,h2,hz,q⟩:=h;cases rx;obtain⟨t,rfl⟩:=ry;obtain⟨z,its,n,r,hl,e⟩:=I.lstM hH;have hlen:its.toArray.size*k.toNat<=sizeLine:=by rw[Ke,<-hl];exact hz
 have hcap:¬its.toArray.size*k.toNat>(2^63-1)/8:=by
  have:(sizeLine:Nat)<=(2^63-1)/8:=by decide
  lia
 have hfit:¬(!Builtin.List.listFitsIndex k)=true:=by
  rw[fitsIndex_both h1 h2];exact J9
 have hlong:¬Builtin.List.listTooLong (its.toArray.size*k.toNat)=true:=by
  rw[qP hlen];exact J9
 have hnew:List.foldl (fun x1 x2=>x1++x2) #[] (List.replicate (if its.toArray.isEmpty=true then 0 else k.toNat) its.toArray)=(List.replicate k.toNat its).flatten.toArray:=by
  have f0:∀m:Nat,List.foldl (fun x1 x2=>x1++x2) #[] (List.replicate m its.toArray)=(List.replicate m its).flatten.toArray:=fun m=>by
   have:=foldl_rep its m [];rw[Lg]at this;exact this
  rw[f0];cases its with
  |nil=>simp
  |cons a r'=>rw[JU (by simp)]
 refine wpAny_binaryOp_repeat_ref (T:="list") (U:="int") (by decide) ⟨_,e,rfl⟩ (fun s'=>typeIs_int s' k t) noFill_list_mul F.fills_int_mul F.slot_int_rmul repeat_list F.slot_int_index.lookup
  (call_meets F.slot_int_rmul (typeIs_int s k t) F.entry_int_rmul (F.args_int_rmul_2 _ _) (int___rmul___int_list k t l its.toArray n)
   ⟨e,rfl,⟨_,e,rfl⟩,call_meets F.slot_list_mul ⟨_,e,rfl⟩ F.entry_list_mul (F.args_list_mul_2 _ _) (AutoListH.list___mul___list_int_3 l its.toArray n k t hfit hcap hlong) ⟨e,?_⟩⟩)
 rw[hnew];exact⟨.ref _,_,I.lnew (t':=s.toks) (r.rep k.toNat) (by rw[len_rep,Nat.mul_comm];exact hz),rfl,q _ I.fresh⟩
end
theorem aU.ints:∀{ns:List Int} {us:List Value},aU (ns.map V.int) us->IntsAre us ns
 |[],us,h=>by
  rw[Lh]at h;cases h;exact IntsAre.nil
 |n::ns,us,h=>by
  rw[J5]at h;cases h with
  |cons r t =>
   obtain⟨k,rfl⟩:=r;exact IntsAre.cons n k (aU.ints t)
theorem aU.bls:∀{bs:List Bool} {us:List Value},aU (bs.map V.bl) us->us=bs.map Value.bool
 |[],us,h=>by
  rw[Lh]at h;cases h;rfl
 |b::bs,us,h=>by
  rw[J5]at h;cases h with
  |cons r t =>
   cases r;rw[aU.bls t,J5]
theorem aU.ref1(r:aU [V.ref a] us):us=[Value.ref a]:=by
 cases r with
 |cons r t =>
  cases t;cases r;rfl
section
variable{prog:Program}{w:World}{A:Around}{l:Addr}{ns:List Int}
theorem DC(hh:A.handled=none)(hl:s.heap.IsList l its.toArray)(hi:IntsAre its ns)(h:∀h' tk t',(∀b o,s.heap.get? b=some o->h'.get? b=some o)->Q (.int ns.sum t') {s with heap:=h',toks:=tk}):wpAny (model prog w) A (call (.builtin "sum") [.ref l]) Q E s:=by
 obtain⟨xs,e⟩:=hi.allInts.items;have hn:numsOf (intItems xs).toList=ns:=by rw[<-e];exact hi.numsOf
 rw[nums_intItems]at hn;rw[e]at hl;refine PySem.sum_intListG hh hl fun h' tk t' hk=>?_;have:=h h' tk t' hk;rw[preSum_eq,List.take_of_length_le (by simp),hn];exact this
end
section
noncomputable def Gb(K:Lq):List V->Hp->VK->Prop:=fun vs H Q=>∃(a:Addr) (ns:List Int),vs=[V.ref a]/\aY K H a (ns.map V.int)/\Q (.int ns.sum) H
theorem GP(hc:X.calm=true):iq X (.builtin "sum") (Gb X.K):=by
 intro pins s σ H vs us Q I r h;obtain⟨a,ns,rfl,hs,q⟩:=h;obtain⟨its,rv,hl,_⟩:=I.list hs;rw[aU.ref1 r];exact DC (I.ok.hd hc) hl.isList rv.ints fun h' tk t' hk=>⟨.int _,H,I.kept hk,⟨_,rfl⟩,q⟩
end
theorem Cq{prog:Program}{w:World}{A:Around}{l:Addr}(hl:s.heap.IsList l items)(h:∀s₂:Shared,s₂={s with heap:=s.heap.push {cls:=.type "list_iterator",data:=.fields #[.ref l,.int 0 0]}} ->
   (s₂.heap.IsListIter s.heap.objs.size l 0/\s₂.heap.IsList l items)->l≠s.heap.objs.size->Q (.ref s.heap.objs.size) s₂):wpAny (model prog w) A (pyIter (.ref l)) Q E s:=by
 have hlt:l<s.heap.objs.size:=by obtain⟨_,e,_⟩:=hl;exact Kc e
 exact wpAny_pyIter_list hl (h _ rfl ⟨⟨_,J6 _ rfl,rfl,rfl⟩,hl.push _⟩ (Kv hlt))
theorem vH{prog:Program}{w:World}{A:Around}{bs:List Bool}(e:its=bs.map Value.bool):
  TruthOf prog w A (fun i v=>its.toArray[i]?=some v) (fun i=>bs.getD i false):=fun i v s Q E hv hq=>by
 have hv':its[i]?=some v:=by simpa using hv
 rw[e,KW]at hv';obtain⟨b,hb,rfl⟩:=Kh.mp hv';have hg:bs.getD i false=b:=by rw[List.getD_eq_getElem?_getD,hb]<;>rfl
 have hq':Q (bs.getD i false) s:=hq;rw[hg]at hq';exact wpAny_truthy_bool hq'
theorem all_range:∀bs:List Bool,(List.range bs.length).all (fun i=>bs.getD i false)=bs.all id
 |[]=>rfl
 |b::bs=>by
  rw[JS,List.range_succ_eq_map,K3,List.all_map,K3,<-all_range bs];all_goals rfl
section
noncomputable def Gd(K:Lq):List V->Hp->VK->Prop:=fun vs H Q=>∃(a:Addr) (bs:List Bool),vs=[V.ref a]/\aY K H a (bs.map V.bl)/\Q (.bl (bs.all id)) H
theorem GQ(hc:X.calm=true):iq X (.builtin "all") (Gd X.K):=by
 intro pins s σ H vs us Q I r h;obtain⟨a,bs,rfl,hs,q⟩:=h;obtain⟨its,rv,hl,_⟩:=I.list hs;rw[aU.ref1 r];have hb:=rv.bls;refine call_all_walk (Cq hl.isList fun s₂ e2 st hne=>?_);subst e2;refine⟨_,_,_,_,_,_,_,rfl,Walks.list (A:=X.A.in1) (I.ok.hd hc) _ a hne its.toArray,st,vH hb,fun h' tk hk=>?_⟩;refine⟨.bl _,H,I.kept fun b o eo=>hk b o (fun hmem=>?_) (JZ _ eo),?_,q⟩
 .rcases Kg.mp hmem with e1|hmem
  .exact absurd (e1▸Kc eo) (KL _)
  .cases hmem
 .show Value.bool _=Value.bool _;rw[<-all_range,hb,Ke,Kk]
end
mutual
inductive Dp (K:Lq) (H:Hp):V->PyData->Prop
 |non:Dp K H .non .none
 |bl (b:Bool):Dp K H (.bl b) (.bool b)
 |int (i:Int):Dp K H (.int i) (.int i)
 |str (x:Str):Dp K H (.str x) (.str x)
 |lst {a:Addr} {xs:List V} {ds:List PyData}:aY K H a xs->n0 K H xs ds->Dp K H (.ref a) (.list ds)
 |tup {a:Addr} {xs:List V} {ds:List PyData}:gG K H a xs->n0 K H xs ds->Dp K H (.ref a) (.tuple ds)
inductive n0 (K:Lq) (H:Hp):List V->List PyData->Prop
 |nil:n0 K H [] []
 |cons {v:V} {vs:List V} {d:PyData} {ds:List PyData}:Dp K H v d->n0 K H vs ds->n0 K H (v::vs) (d::ds)
end
section
variable{σ:St}
mutual
theorem Dp.reads (I:Inv X pins σ H s):∀(d:PyData) (v:V) (u:Value),Dp X.K H v d->RelV v u->∃as,Reads s.heap u d as
 |.none,_,_,h,r=>by
  cases h;cases r;exact⟨_,Reads.none⟩
 |.bool b,_,_,h,r=>by
  cases h;cases r;exact⟨_,Reads.bool b⟩
 |.int i,_,_,h,r=>by
  cases h;obtain⟨t,rfl⟩:=r;exact⟨_,Reads.int i t⟩
 |.str x,_,_,h,r=>by
  cases h;obtain⟨t,rfl⟩:=r;exact⟨_,Reads.str x t⟩
 |.list ds,_,_,h,r=>by
  cases h with
  |lst hs ha =>
   cases r;obtain⟨its,rv,⟨o,n,ho,hc,_,hd⟩,_⟩:=I.list hs;obtain⟨as,hr⟩:=Dp.readsAll I ds _ its ha rv;exact⟨_,Reads.list ho hc hd hr⟩
 |.tuple ds,_,_,h,r=>by
  cases h with
  |tup hs ha =>
   cases r;obtain⟨its,rv,⟨o,ho,hc,n,hd⟩,_⟩:=I.tuple hs;obtain⟨as,hr⟩:=Dp.readsAll I ds _ its ha rv;exact⟨_,Reads.tuple ho hc hd hr⟩
 |.dict _,_,_,h,_=>by cases h
theorem Dp.readsAll (I:Inv X pins σ H s):∀(ds:List PyData) (vs:List V) (us:List Value),n0 X.K H vs ds->aU vs us->∃as,ReadsAll s.heap us ds as
 |[],_,_,h,r=>by
  cases h;cases r;exact⟨_,ReadsAll.nil⟩
 |d::ds,_,_,h,r=>by
  cases h with
  |cons h1 h2 =>
   cases r with
   |cons r1 r2 =>
    obtain⟨as,q1⟩:=Dp.reads I d _ _ h1 r1;obtain⟨bs,q2⟩:=Dp.readsAll I ds _ _ h2 r2;exact⟨_,ReadsAll.cons q1 q2⟩
end
end
section
noncomputable def Gc(K:Lq):R2:=fun x y H Q=>∃d e,Dp K H x d/\Dp K H y e/\SeqAt.shaped d=true/\SeqAt.shaped e=true/\Q (.bl (PyData.eqv d e)) H
noncomputable def BL(K:Lq):R2:=fun x y H Q=>∃d e,Dp K H x d/\Dp K H y e/\SeqAt.shaped d=true/\SeqAt.shaped e=true/\Q (.bl (!PyData.eqv d e)) H
theorem mr(hu:X.A.units+64<cLine):ki X (compareOp .Eq) (Gc X.K):=by
 intro pins s σ H x y v u Q I rx ry h;obtain⟨d,e,hd,he,sd,se,q⟩:=h;obtain⟨as,r1⟩:=Dp.reads I d x v hd rx;obtain⟨bs,r2⟩:=Dp.reads I e y u he ry;exact SeqAt.compareEq_shaped r1 r2 sd se hu ⟨.bl _,H,I,rfl,q⟩
theorem qG(hu:X.A.units+64<cLine):ki X (compareOp .NotEq) (BL X.K):=by
 intro pins s σ H x y v u Q I rx ry h;obtain⟨d,e,hd,he,sd,se,q⟩:=h;obtain⟨as,r1⟩:=Dp.reads I d x v hd rx;obtain⟨bs,r2⟩:=Dp.reads I e y u he ry;exact SeqAt.compareNe_shaped r1 r2 sd se hu ⟨.bl _,H,I,rfl,q⟩
end
noncomputable abbrev Dr(h:Heap)(c:Addr)(v:Option Value):Prop:=h.IsCell c v
noncomputable def IG(scope sc:Scope):Scope :=
 {scope with names:=scope.names.map fun(n,k)=>if (k == .free&&sc.kind == .function&&sc.names.lookup n==some .cell) then(n,.cell) else(n,k)}
noncomputable def cJ(cells:List (Str×Addr)):List (Str×NameKind)->List (Str×Addr)->List (Str×Addr)
 |[],acc=>acc
 |(n,k)::r,acc=>if k == .free then cJ cells r ((n,(cells.lookup n).getD 0)::acc) else cJ cells r acc
theorem nU(env:Env)(f:Str×NameKind->List (Str×Addr)->Sem (ForInStep (List (Str×Addr))))(hf:∀n k c,f (n,k) c=if k == .free then(do let a <-cellOf env n;pure (.yield ((n,a)::c))) else pure (.yield c)):
  ∀(names:List (Str×NameKind)) (acc:List (Str×Addr)),(∀y∈names,y.2 = .free->∃c,env.cells.lookup y.1=some c)->forIn names acc f=pure (cJ env.cells names acc)
 |[],acc,_=>by rw[List.forIn_nil];rfl
 |(n,k)::r,acc,h=>by
  rw[List.forIn_cons,hf];have ih:=fun acc=>nU env f hf r acc fun y hy=>h y (J0 _ hy);unfold cJ;by_cases hk:(k==NameKind.free)=true
  .rw[JX hk,JX hk];obtain⟨c,hc⟩:=h (n,k) J8 (by simpa using hk);have e:cellOf env n=pure c:=by unfold cellOf;rw[hc]
   rw[e];have e2:(env.cells.lookup n).getD 0=c:=by rw[hc];rfl
   rw[e2];exact ih _
  .rw[JU hk,JU hk];exact ih _
theorem yG{env:Env}(h:∀y∈scope.names,y.2 = .free->∃c,env.cells.lookup y.1=some c):closureFor scope env=pure (cJ env.cells scope.names []):=by
 simp only[closureFor];rw[nU env _ (fun n k c=>rfl) scope.names [] h];rfl
theorem mem_lookup{α:Type}:∀{l:List (Str×α)} {n:Str} {c:α},(n,c)∈l->∃c',l.lookup n=some c'
 |(k,v)::r,n,c,h=>by
  rw[K2];cases hb:n==k with
  |true=>exact⟨_,rfl⟩
  |false =>
   rcases Kg.mp h with e|h
   .cases e;simp at hb
   .exact mem_lookup h
theorem je:∀{names:List (Str×NameKind)} {acc:List (Str×Addr)} {n:Str} {c:Addr},(n,c)∈cJ cells names acc->(n,c)∈acc\/((n,.free)∈names/\c=(cells.lookup n).getD 0)
 |[],_,_,_,h=>.inl h
 |(m,k)::r,acc,n,c,h=>by
  unfold cJ at h;split at h
  .rename_i hk;have hk:k = .free:=by simpa using hk
   rcases je h with h|⟨h1,h2⟩
   .rcases Kg.mp h with e|h
    .cases e;exact .inr ⟨hk▸J8,rfl⟩
    .exact .inl h
   .exact .inr ⟨J0 _ h1,h2⟩
  .rcases je h with h|⟨h1,h2⟩
   .exact .inl h
   .exact .inr ⟨J0 _ h1,h2⟩
theorem lp:∀{names:List (Str×NameKind)} {acc:List (Str×Addr)} {p:Str×Addr},p∈acc->p∈cJ cells names acc
 |[],_,_,h=>h
 |(m,k)::r,acc,p,h=>by
  unfold cJ;split
  .exact lp (J0 _ h)
  .exact lp h
theorem ll:∀{names:List (Str×NameKind)} {acc:List (Str×Addr)} {n:Str},(n,.free)∈names->(n,(cells.lookup n).getD 0)∈cJ cells names acc
 |(m,k)::r,acc,n,h=>by
  unfold cJ;rcases Kg.mp h with e|h
  .cases e;exact lp J8
  .split
   .exact ll h
   .exact ll h
theorem jJ:∀{names:List (Str×NameKind)} {h:Heap} {acc:List (Str×Addr)} {x:Str} {c:Addr},(x,c)∈cellsFrom h.objs.size names acc ->
  (x,c)∈acc\/((x,.cell)∈names/\h.objs.size<=c/\Dr (pushCells h names) c none)
 |[],_,_,_,_,h=>.inl h
 |(n,k)::r,h,acc,x,c,hm=>by
  unfold cellsFrom at hm;unfold pushCells;split at hm
  .rename_i hk;rw[JX hk];have hk:k = .cell:=by simpa using hk
   rw[<-Heap.size_push h {cls:=.type "cell",data:=.cell none}]at hm;rcases jJ hm with hm|⟨h1,h2,h3⟩
   .rcases Kg.mp hm with e|hm
    .cases e;exact .inr ⟨hk▸J8,JY _,_,pushCells_keeps r _ _ _ (J6 _ rfl),rfl⟩
    .exact .inl hm
   .rw[Heap.size_push]at h2;exact .inr ⟨J0 _ h1,Nat.le_of_succ_le h2,h3⟩
  .rename_i hk;rw[JU hk];rcases jJ hm with hm|⟨h1,h2,h3⟩
   .exact .inl hm
   .exact .inr ⟨J0 _ h1,h2,h3⟩
theorem lO:∀{names:List (Str×NameKind)} {n:Nat} {acc:List (Str×Addr)} {p:Str×Addr},p∈acc->p∈cellsFrom n names acc
 |[],_,_,_,h=>h
 |(m,k)::r,n,acc,p,h=>by
  unfold cellsFrom;split
  .exact lO (J0 _ h)
  .exact lO h
theorem oP:∀{names:List (Str×NameKind)} {n:Nat} {acc:List (Str×Addr)} {x:Str},(x,.cell)∈names->∃c,(x,c)∈cellsFrom n names acc
 |(m,k)::r,n,acc,x,h=>by
  unfold cellsFrom;rcases Kg.mp h with e|h
  .cases e;exact⟨n,lO J8⟩
  .split
   .exact oP h
   .exact oP h
theorem oO:∀{names:List (Str×NameKind)} {h:Heap} {acc:List (Str×Addr)} {x y:Str} {c:Addr},(∀p∈acc,p.2<h.objs.size)->(∀x y c,(x,c)∈acc->(y,c)∈acc->x=y) ->
  (x,c)∈cellsFrom h.objs.size names acc->(y,c)∈cellsFrom h.objs.size names acc->x=y
 |[],_,_,_,_,_,_,hi,h1,h2=>hi _ _ _ h1 h2
 |(n,k)::r,h,acc,x,y,c,hl,hi,h1,h2=>by
  unfold cellsFrom at h1 h2;split at h1
  .rename_i hk;rw[JX hk]at h2;rw[<-Heap.size_push h {cls:=.type "cell",data:=.cell none}]at h1 h2;refine oO (h:=h.push _) (fun p hp=>?_) (fun x y c a b=>?_) h1 h2
   .rw[Heap.size_push];rcases Kg.mp hp with rfl|hp
    .exact Nat.lt_succ_self _
    .exact Nat.lt_succ_of_lt (hl p hp)
   .rcases Kg.mp a with e|a<;>rcases Kg.mp b with e'|b
    .cases e;cases e';rfl
    .cases e;exact absurd (hl _ b) (KL _)
    .cases e';exact absurd (hl _ a) (KL _)
    .exact hi _ _ _ a b
  .rename_i hk;rw[JU hk]at h2;exact oO hl hi h1 h2
theorem wg{A:Around}{globals:Addr}{closure:List (Str×Addr)}{func:Option Addr}{code:Value}{around:Env}{builtins:Addr}{Q:Env->Shared->Prop}(h:Q (newEnv scope s.heap.objs.size globals (cellsFrom (s.heap.objs.size+1) scope.names closure) qual func code (some around) builtins)
   {s with heap:=pushCells (s.heap.push {cls:=.type "dict",data:=.dict #[]}) scope.names}):
  wpAny M A (newFunctionEnv scope globals closure [] qual func code (some around) builtins) Q E s:=by
 simp only[newFunctionEnv,Option.isSome_some,if_true];refine JR (wpAny_alloc ?_);refine JR (wpAny_layCells _ (fun n k c=>rfl) scope.names closure _ _ ?_);rw[show({s with heap:=s.heap.push {cls:=.type "dict",data:=.dict #[]}}:Shared).heap.objs.size=s.heap.objs.size+1 from Heap.size_push ..];rw[List.forIn_nil];exact JR (JV (JV h))
theorem kU{sc:Scope}:∀{names:List (Str×NameKind)} {x:Str} {k:NameKind},
  (names.map fun(n,k)=>if (k==NameKind.free&&sc.kind == .function&&sc.names.lookup n==some .cell) then(n,NameKind.cell) else(n,k)).lookup x=some k ->
  ∃k',names.lookup x=some k'/\(k=k'\/(k' = .free/\k = .cell))
 |[],_,_,h=>by simp at h
 |(n,k₀)::r,x,k,h=>by
  have ih:=@kU sc r x k;have h':List.lookup x ((if (k₀==NameKind.free&&sc.kind == .function&&sc.names.lookup n==some .cell)=true then(n,NameKind.cell) else(n,k₀))::(r.map _))=some k:=h;cases hx:x==n with
  |true =>
   simp only[K2,hx];by_cases hc:(k₀==NameKind.free&&sc.kind == .function&&sc.names.lookup n==some .cell)=true
   .rw[JX hc]at h';simp only[K2,hx]at h';cases h';simp only[Kt,beq_iff_eq]at hc;exact⟨k₀,rfl,.inr ⟨hc.1.1,rfl⟩⟩
   .rw[JU hc]at h';simp only[K2,hx]at h';cases h';exact⟨_,rfl,.inl rfl⟩
  |false =>
   simp only[K2,hx];by_cases hc:(k₀==NameKind.free&&sc.kind == .function&&sc.names.lookup n==some .cell)=true
   .rw[JX hc]at h';simp only[K2,hx]at h';exact ih h'
   .rw[JU hc]at h';simp only[K2,hx]at h';exact ih h'
structure xD (N:List Str) (sc scope:Scope) (own:List (Str×Nat)):Prop where
 kind:scope.kind = .function
 uniq:∀y∈scope.names,scope.names.lookup y.1=some y.2
 ix:∀p∈own,N[p.2]?=some p.1
 free:∀y∈scope.names,y.2 = .free->sc.names.lookup y.1=some .cell\/sc.names.lookup y.1=some .free
 own:∀y∈scope.names,y.2 = .local\/y.2 = .cell->y.1∈own.map (·.1)\/y.1∉N
noncomputable def wipe(σ:St):List Nat->St
 |[]=>σ
 |v::vs=>(wipe σ vs).set v none
theorem kj(σ:St):∀vs:List Nat,(wipe σ vs).length=σ.length
 |[]=>rfl
 |v::vs=>by unfold wipe;rw[List.length_set,kj σ vs]
theorem oa{σ:St}{x:V}:∀{vs:List Nat},(wipe σ vs)[i]?=some (some x)->σ[i]?=some (some x)/\i∉vs
 |[],h=>⟨h,by simp⟩
 |v::vs,h=>by
  unfold wipe at h;by_cases hi:v=i
  .subst hi;by_cases hv:v<(wipe σ vs).length
   .rw[Lc hv]at h;cases h
   .rw[List.getElem?_eq_none (by simpa using hv)]at h;cases h
  .rw[Ll hi]at h;obtain⟨h1,h2⟩:=oa h;exact⟨h1,by simp only[Kg,not_or];exact⟨fun e=>hi e.symm,h2⟩⟩
noncomputable abbrev Cx.blk(X:Cx)(s:Shared)(H:Hp)(scope:Scope)(cenv:Env)(fp:List Addr):Cx:={X with s_0:=s,H_0:=H,env:=cenv,outer:=X.stack,ex:=fp,fn:=fun x=>scope.names.lookup x==some .cell,pn:=[],xe:=fun _ _=>False}
section
variable{σ:St}
theorem xm{own:List (Str×Nat)}(I:Inv X pins σ H s)(ok:xD X.N X.env.scope scope own)(hN:X.N.Nodup)(hfp:∀b∈fp,mM X pins H b/\b<s.heap.objs.size):
  Inv (X.blk s H scope (compEnvC scope (cellsFrom (s.heap.objs.size+1) scope.names (cJ X.env.cells scope.names [])) s.heap.objs.size X.env) fp) [] (wipe σ (own.map (·.2))) H {s with heap:=pushCells (s.heap.push {cls:=.type "dict",data:=.dict #[]}) scope.names}:=by
 have hfree:∀y∈scope.names,y.2 = .free->∃c,X.env.cells.lookup y.1=some c:=fun y hy e=>by
  rcases ok.free y hy e with k|k
  .exact I.ok.has _ (.inl k)
  .exact I.ok.has _ (.inr k)
 generalize hcenv:compEnvC scope (cellsFrom (s.heap.objs.size+1) scope.names (cJ X.env.cells scope.names [])) s.heap.objs.size X.env=cenv;have kp:∀b o,s.heap.get? b=some o->(pushCells (s.heap.push {cls:=.type "dict",data:=.dict #[]}) scope.names).get? b=some o:=fun b o e=>pushCells_keeps _ _ _ _ (JZ _ e);have hL:cenv.locals=s.heap.objs.size:=by rw[<-hcenv];rfl
 have hcl:cenv.cells=cellsFrom (s.heap.objs.size+1) scope.names (cJ X.env.cells scope.names []):=by rw[<-hcenv];rfl
 have hsc:cenv.scope=IG scope X.env.scope:=by rw[<-hcenv];rfl
 rw[<-Heap.size_push s.heap {cls:=.type "dict",data:=.dict #[]}]at hcl;have cm:∀{y c},(y,c)∈cJ X.env.cells scope.names []->X.env.cells.lookup y=some c/\c<s.heap.objs.size:=fun {y c} hm=>by
  rcases je hm with hm|⟨h1,rfl⟩
  .cases hm
  .obtain⟨c,hc⟩:=hfree _ h1 rfl;rw[hc];obtain⟨w,z⟩:=I.cell _ _ hc;exact⟨rfl,z.lt⟩
 have mem:∀{y c},cenv.cells.lookup y=some c->(X.env.cells.lookup y=some c/\c<s.heap.objs.size)\/(s.heap.objs.size+1<=c/\Dr (pushCells (s.heap.push {cls:=.type "dict",data:=.dict #[]}) scope.names) c none):=fun {y c} e=>by
  rw[hcl]at e;rcases jJ (Ky e) with hm|⟨_,h2,h3⟩
  .exact .inl (cm hm)
  .rw[Heap.size_push]at h2;exact .inr ⟨h2,h3⟩
 have look:∀{y},scope.names.lookup y=some .free->∃c,cenv.cells.lookup y=some c/\X.env.cells.lookup y=some c:=fun {y} hl=>by
  have hy:(y,NameKind.free)∈scope.names:=Ky hl;obtain⟨c',e'⟩:=mem_lookup (lO (names:=scope.names) (n:=(s.heap.push {cls:=.type "dict",data:=.dict #[]}).objs.size) (ll (cells:=X.env.cells) (acc:=[]) hy));rw[<-hcl]at e';refine⟨c',e',?_⟩;rw[hcl]at e';rcases jJ (Ky e') with hm|⟨h1,_,_⟩
  .exact(cm hm).1
  .have:=ok.uniq _ h1;rw[hl]at this;cases this
 have okB:(X.blk s H scope cenv fp).Ok:=by
  refine⟨I.ok.mod,by show cenv.scope.kind=_;rw[hsc];exact ok.kind,by show cenv.globals=_;rw[<-hcenv];exact I.ok.glob,by show cenv.builtins=_;rw[<-hcenv];exact I.ok.blt,by show s.heap.objs.size<=cenv.locals;rw[hL];exact JY _,
   fun y z c e1 e2=>?_,fun y hy=>?_,fun y c z e=>?_,I.ok.hd,I.ok.frames,.inl rfl,fun b hb=>⟨?_,fun y c e z=>?_⟩,I.bs,KH I.ok.bsz I.sz,fun b o e hb=>?_,fun b hb z=>?_,I.stack,I.stkFree⟩
  .have e1:cenv.cells.lookup y=some c:=e1;have e2:cenv.cells.lookup z=some c:=e2;rw[hcl]at e1 e2;refine oO (fun p hp=>?_) (fun y z c a b=>I.ok.inj y z c (cm a).1 (cm b).1) (Ky e1) (Ky e2);rw[Heap.size_push];exact Nat.lt_succ_of_lt (cm (y:=p.1) (c:=p.2) hp).2
  .show ∃c,cenv.cells.lookup y=some c;have key:∀k,cenv.kindOf y=some k->(k = .cell\/k = .free)->∃c,cenv.cells.lookup y=some c:=fun k hk hk'=>by
    unfold Env.kindOf at hk;rw[hsc]at hk;obtain⟨k',e,r⟩:=kU hk;have:k' = .cell\/k' = .free:=by
     rcases r with rfl|⟨rfl,_⟩
     .exact hk'
     .exact .inr rfl
    rcases this with rfl|rfl
    .obtain⟨c,hm⟩:=oP (n:=(s.heap.push {cls:=.type "dict",data:=.dict #[]}).objs.size) (acc:=cJ X.env.cells scope.names []) (Ky e);obtain⟨c',e'⟩:=mem_lookup hm;exact⟨c',by rw[hcl];exact e'⟩
    .obtain⟨c,h1,_⟩:=look e;exact⟨c,h1⟩
   rcases hy with hy|hy
   .exact key _ hy (.inl rfl)
   .exact key _ hy (.inr rfl)
  .have z:(scope.names.lookup y==some NameKind.cell)=true:=z;have z:scope.names.lookup y=some .cell:=by simpa using z
   have e:cenv.cells.lookup y=some c:=e;rw[hcl]at e;rcases jJ (Ky e) with hm|⟨_,h2,_⟩
   .rcases je hm with hm|⟨h1,_⟩
    .cases hm
    .have q:=ok.uniq _ h1;rw[z]at q;cases q
   .rw[Heap.size_push]at h2;exact Nat.le_of_succ_le h2
  .show b≠cenv.locals;rw[hL];exact Kv (hfp b hb).2
  .have e:cenv.cells.lookup y=some c:=e;rcases mem e with⟨h1,_⟩|⟨h1,_⟩
   .exact(hfp b hb).1.2.2.2.2.1 y c h1 z
   .have h2:s.heap.objs.size+1<=b:=by rw[<-z];exact h1
    exact absurd (Ki (hfp b hb).2 (Nat.le_of_succ_le h2)) (KL _)
  .rcases(hfp b hb).1.2.2.2.1 with z|z
   .exact I.ok.noex b o e z
   .exact absurd (Ki (Kc e) (KH I.ok.bsz z)) (KL _)
  .rcases Kg.mp (I.stkSub b z) with z|z
   .exact(hfp b hb).1.2.1 z
   .exact(hfp b hb).1.2.2.1 z
 refine⟨okB,rfl,I.bare,Un.kept kp,⟨fun _=>none,?_,fun i y av e1 e2 e3=>?_⟩,fun y c e=>?_,?_,fun y c e=>?_,fun p hp=>?_,I.hok.kept kp,by rw[kj];exact I.len⟩
 .show Heap.Ns _ cenv.locals _;rw[hL];exact Heap.Ns.keeps (Heap.Ns.new ..) fun b o e=>pushCells_keeps _ _ _ _ e
 .obtain⟨e2,hne⟩:=oa e2;have hfr:scope.names.lookup y=some .free/\(cenv.kindOf y=some .cell\/cenv.kindOf y=some .free):=by
   have key:∀k,cenv.scope.names.lookup y=some k->k = .local\/k = .cell\/k = .free->scope.names.lookup y=some .free/\(cenv.kindOf y=some .cell\/cenv.kindOf y=some .free):=fun k hk hk'=>by
    have hk0:=hk;rw[hsc]at hk;obtain⟨k',e,r⟩:=kU hk;have no:¬(k' = .local\/k' = .cell):=fun hh=>by
     rcases ok.own _ (Ky e) hh with e'|e'
     .obtain⟨p,hp,hpy⟩:=KZ.mp e';have e3:=ok.ix p hp;have:p.1=y:=hpy;rw[this]at e3;exact hne (KZ.mpr ⟨p,hp,nj hN e3 e1⟩)
     .exact e' (Kr e1)
    rcases r with rfl|⟨rfl,rfl⟩
    .rcases hk' with rfl|rfl|rfl
     .exact absurd (.inl rfl) no
     .exact absurd (.inr rfl) no
     .exact⟨e,.inr hk0⟩
    .exact⟨e,.inl hk0⟩
   have e3:Hc cenv.scope y:=e3;rcases e3 with e3|e3|e3
   .exact key _ e3 (.inl rfl)
   .exact key _ e3 (.inr (.inl rfl))
   .exact key _ e3 (.inr (.inr rfl))
  obtain⟨m,hn,hl⟩:=I.loc;have hvis:Hc X.env.scope y:=(ok.free _ (Ky hfr.1) rfl).elim (fun k=>.inr (.inl k)) (fun k=>.inr (.inr k));obtain⟨w,r,q⟩:=hl i y av e1 e2 hvis;refine⟨w,r,.inr ⟨hfr.2,?_⟩⟩;obtain⟨c,h1,h2⟩:=look hfr.1;rcases q with⟨k,_⟩|⟨_,c',e',z⟩
  .have k:X.env.scope.names.lookup y=some .local:=k;rcases ok.free _ (Ky hfr.1) rfl with k'|k'<;>rw[show X.env.scope.names.lookup y=_ from k']at k<;>cases k
  .rw[h2]at e';cases e';exact⟨c,h1,z.keeps kp⟩
 .have e:cenv.cells.lookup y=some c:=e;rcases mem e with⟨h1,_⟩|⟨_,z⟩
  .obtain⟨w,z⟩:=I.cell y c h1;exact⟨w,z.keeps kp⟩
  .exact⟨_,z⟩
 .show H cenv.locals=none;rw[hL];exact I.hok.fresh (JY _)
 .have e:cenv.cells.lookup y=some c:=e;rcases mem e with⟨h1,_⟩|⟨h1,_⟩
  .exact I.freeC y c h1
  .exact I.hok.fresh (Nat.le_of_succ_le h1)
 .exact absurd (show p∈([]:List (Addr×Obj))++[] from hp) (by simp)
theorem GX{D:Addr}(I:Inv X pins σ H s)(hD:H D=some (.lst xs))(hz:xs.length<sizeLine)(r:RelV y v)(h:∀s',Inv X pins σ (upd H D (.lst (xs++[y]))) s'->Q .none s'):wpAny (model X.prog X.w) X.A (call (.builtin "list.append") [.ref D,v]) Q E s:=by
 obtain⟨hz',its,n,ri,e⟩:=I.hok D _ hD;have hl:=ri.length;refine append_at (hsz:=by rw[Ke];lia) e fun h' sb ho'=>?_;refine h {s with heap:=h'} (I.write (t':=s.toks) (by rw[hD];trivial) (.inl rfl) (fun b u hb q=>(sb.2 b hb).trans q) ⟨_,ho'⟩ ⟨by rw[JT];exact hz,its++[v],n+1,ri.append (.cons r .nil),?_⟩);rw[ho'];simp
noncomputable def Ik(X:Cx)(ifs:List Expr)(t:TT):Prop :=
 ∀(pins:List (Addr×Obj)) (s:Shared) (σ:St) (H:Hp) (Q:Bool->Hp->Prop),Inv X pins σ H s->t σ H Q ->
  wpAny (model X.prog X.w) X.A (forIn ifs true fun c r=>if r=true then do let ok <-isTrue c X.env (eval c X.env);pure (ForInStep.yield ok) else pure (ForInStep.yield r)) (TP X pins σ Q) X.xe s
noncomputable def A9:TT:=fun _ H Q=>Q true H
theorem fE:Ik X [] A9:=fun _ _ _ H _ I h=>wpAny_tests_nil ⟨H,I,h⟩
theorem pW{t:TT}(h:PT X c t):Ik X [c] t:=fun pins s σ H Q I hw=>wpAny_tests_one (h pins s σ H Q I hw)
end
theorem u6{prog:Program}{w:World}{A:Around}{target:Expr}{it acc:Value}{env:Env}(I:Nat->Shared->Prop)(turn:∀n s,I n s->wpAny (model prog w) A (pyNext it) (fun r s₁=>match r with
   |none=>R (.ok .next) s₁
   |some v=>wpAny (model prog w) A (letOwnedTupleGo target it v) (fun _ s₁'=>wpAny (model prog w) A (assign target env v) (fun _ s₂ =>
     wpAny (model prog w) A (forIn ifs true fun c r=>if r=true then do let ok <-isTrue c env (eval c env);pure (ForInStep.yield ok) else pure (ForInStep.yield r)) (fun ok s₃ =>
      if ok=true then wpAny (model prog w) A (eval elt env) (fun x s₄ =>
       wpAny (model prog w) A (call (.builtin "list.append") [acc,x]) (fun _ s₅=>∃m,m<n/\I m s₅) (notedBy (model prog w) A env fun e s'=>R (.error e) s') s₄) (notedBy (model prog w) A env fun e s'=>R (.error e) s') s₃
      else ∃m,m<n/\I m s₃) (notedBy (model prog w) A env fun e s'=>R (.error e) s') s₂) (notedBy (model prog w) A env fun e s'=>R (.error e) s') s₁') (notedBy (model prog w) A env fun e s'=>R (.error e) s') s₁) (notedBy (model prog w) A env fun e s'=>R (.error e) s') s)(n:Nat)(h:I n s):
  codeAny (model prog w) A (.compLoop (.ListComp elt [⟨target,iter,ifs,0⟩] scope pos) 0 it acc env) R s:=by
 refine codeAny_loop rfl I (fun n s hI=>?_) n h;show wpAny _ A ((compTurn (.ListComp elt [⟨target,iter,ifs,0⟩] scope pos) 0 it acc env).onRaise (fun x=>do noteFrame x env;theTreesLotGoes x)) _ _ s;refine wpAny_noted ?_;rw[compTurn_list];refine JR (wpAny_standAt (JR (KR (turn n s hI) (fun r s₁ h₁=>?_) fun _ _ h'=>h')));cases r with
 |none=>exact JV h₁
 |some v =>
  refine JR (KR h₁ (fun _ s₁' h₁'=>?_) fun _ _ h'=>h');refine JR (KR h₁' (fun _ s₂ h₂=>JR (KR h₂ (fun ok s₃ h₃=>?_) fun _ _ h'=>h')) fun _ _ h'=>h');cases ok with
  |false=>exact JV ⟨rfl,h₃⟩
  |true =>
   exact JR (JR (KR h₃ (fun x s₄ h₄=>JR (KR h₄ (fun _ s₅ h₅=>JV (JV ⟨rfl,h₅⟩)) fun _ _ h'=>h')) fun _ _ h'=>h'))
section
noncomputable def Hn(wi:TI)(g:TG)(tt:TT)(te:TE)(vs:List Nat):TE:=fun σ H Q=>wi σ H fun J H1=>∀D,H1 D=none->∃W:Nat->Nat->Hp->Prop,(∃m,W 0 m (upd H1 D (.lst [])))/\∀i m H,W i m H ->
 (J.stop i H/\Q (.ref D) H)\/(J.go i H/\∃Nx:Hp->Prop,(∀H',Nx H'->∃m',m'<m/\W (i+1) m' H')/\∀x H',J.yld i H x H'->g x (wipe σ vs) H' fun σ2 H2=>wipe σ2 vs=wipe σ vs/\tt σ2 H2 fun b H3 =>
  if b=true then te σ2 H3 fun y H4=>∃acc,H4 D=some (.lst acc)/\acc.length<sizeLine/\Nx (upd H4 D (.lst (acc++[y]))) else Nx H3)
theorem tW{gs:List Comprehension}{py:Pos}{y:Str}{l:Nat}{env:Env}(hk:env.scope.kind = .function)(hy:env.scope.names.lookup y=some .local)(hl:(py.line==pos.line)=true)(ha:(scope.names.any fun(n,k)=>n==y&&(k == .local||k == .cell))=false):swapsWith (.ListComp elt gs scope pos) (some (.Name y py)) l env=pure true:=by
 have ky:env.kindOf y=some .local:=hy;have hb:env.blockKind = .function:=by unfold Env.blockKind;rw[hk];rfl
 unfold swapsWith;simp only[hb,ky,ha,Expr.pos,hl];rfl
end
theorem Er{K:Lq}{vs:List Nat}{σ:St}{D:Addr}(Pv:Nat->Hp->Prop)(h0:Pv 0 (upd H1 D (.lst [])))(hl:∀i H,i<=xs.length->Pv i H->aY K H a xs)(hs:∀i x H,xs[i]?=some x->Pv i H->g x (wipe σ vs) H fun σ2 H2=>wipe σ2 vs=wipe σ vs/\tt σ2 H2 fun b H3 =>
   if b=true then te σ2 H3 fun y H4=>∃acc,H4 D=some (.lst acc)/\acc.length<sizeLine/\Pv (i+1) (upd H4 D (.lst (acc++[y]))) else Pv (i+1) H3)(hd:∀H,Pv xs.length H->Qd H):
  ∃W:Nat->Nat->Hp->Prop,(∃m,W 0 m (upd H1 D (.lst [])))/\∀i m H,W i m H ->
   ((xE K a).stop i H/\Qd H)\/((xE K a).go i H/\∃Nx:Hp->Prop,(∀H',Nx H'->∃m',m'<m/\W (i+1) m' H')/\∀x H',(xE K a).yld i H x H'->g x (wipe σ vs) H' fun σ2 H2=>wipe σ2 vs=wipe σ vs/\tt σ2 H2 fun b H3 =>
    if b=true then te σ2 H3 fun y H4=>∃acc,H4 D=some (.lst acc)/\acc.length<sizeLine/\Nx (upd H4 D (.lst (acc++[y]))) else Nx H3):=by
 refine⟨fun i m H=>m=xs.length-i/\i<=xs.length/\Pv i H,⟨xs.length,by simp,Kq _,h0⟩,?_⟩;rintro i m H ⟨rfl,hi,p⟩;have q:=hl i H hi p;by_cases hlt:i<xs.length
 .refine .inr ⟨⟨xs,xs[i],q,by simp[hlt]⟩,Pv (i+1),fun H' p'=>⟨xs.length-(i+1),by lia,rfl,hlt,p'⟩,fun x H' y=>?_⟩;obtain⟨e,y⟩:=y;subst e;exact hs i x _ (y xs q) p
 .have e:i=xs.length:=by lia
  subst e;exact .inl ⟨⟨xs,q,JY _⟩,hd H p⟩
theorem Gr{K:Lq}{vs:List Nat}{σ:St}{D:Addr}(Pv:Nat->Hp->Prop)(h0:Pv 0 (upd H1 D (.lst [])))(hl:∀i H,i<=xs.length->Pv i H->gG K H a xs)(hs:∀i x H,xs[i]?=some x->Pv i H->g x (wipe σ vs) H fun σ2 H2=>wipe σ2 vs=wipe σ vs/\tt σ2 H2 fun b H3 =>
   if b=true then te σ2 H3 fun y H4=>∃acc,H4 D=some (.lst acc)/\acc.length<sizeLine/\Pv (i+1) (upd H4 D (.lst (acc++[y]))) else Pv (i+1) H3)(hd:∀H,Pv xs.length H->Qd H):
  ∃W:Nat->Nat->Hp->Prop,(∃m,W 0 m (upd H1 D (.lst [])))/\∀i m H,W i m H ->
   ((yN K a).stop i H/\Qd H)\/((yN K a).go i H/\∃Nx:Hp->Prop,(∀H',Nx H'->∃m',m'<m/\W (i+1) m' H')/\∀x H',(yN K a).yld i H x H'->g x (wipe σ vs) H' fun σ2 H2=>wipe σ2 vs=wipe σ vs/\tt σ2 H2 fun b H3 =>
    if b=true then te σ2 H3 fun y H4=>∃acc,H4 D=some (.lst acc)/\acc.length<sizeLine/\Nx (upd H4 D (.lst (acc++[y]))) else Nx H3):=by
 refine⟨fun i m H=>m=xs.length-i/\i<=xs.length/\Pv i H,⟨xs.length,by simp,Kq _,h0⟩,?_⟩;rintro i m H ⟨rfl,hi,p⟩;have q:=hl i H hi p;by_cases hlt:i<xs.length
 .refine .inr ⟨⟨xs,xs[i],q,by simp[hlt]⟩,Pv (i+1),fun H' p'=>⟨xs.length-(i+1),by lia,rfl,hlt,p'⟩,fun x H' y=>?_⟩;obtain⟨e,y⟩:=y;subst e;exact hs i x _ (y xs q) p
 .have e:i=xs.length:=by lia
  subst e;exact .inl ⟨⟨xs,q,JY _⟩,hd H p⟩
noncomputable def Ie(N:List Str)(sc scope:Scope)(own:List (Str×Nat)):Bool :=
 (match scope.kind with | .function=>true|_=>false)&&(scope.names.all fun y=>decide (scope.names.lookup y.1=some y.2))&&(own.all fun p=>decide (N[p.2]?=some p.1)) &&
  (scope.names.all fun y=>match y.2 with
   |.free=>(match sc.names.lookup y.1 with|some .cell=>true|some .free=>true|_=>false)
   |.local=>decide (y.1∈own.map (·.1))||decide (y.1∉N)
   |.cell=>decide (y.1∈own.map (·.1))||decide (y.1∉N)
   |_=>true)
theorem cP{N:List Str}{own:List (Str×Nat)}(h:Ie N sc scope own=true):xD N sc scope own:=by
 unfold Ie at h;simp only[Kt,Ln,Lo]at h;obtain⟨⟨⟨h1,h2⟩,h3⟩,h4⟩:=h;refine⟨?_,h2,h3,fun y hy e=>?_,fun y hy e=>?_⟩
 .split at h1
  .assumption
  .cases h1
 .have q:=h4 y hy;simp only[e]at q;split at q<;>first|exact .inl (by assumption)|exact .inr (by assumption)|cases q
 .have q:=h4 y hy;rcases e with e|e<;>(simp only[e,Lm,Lo]at q;exact q)
section
variable{κ:Type} [DecidableEq κ]
noncomputable def d9(kvs:List (κ×V))(k:κ):Option V:=(kvs.find? fun kv=>decide (kv.1=k)).map (·.2)
noncomputable def putK(kvs:List (κ×V))(k:κ)(v:V):List (κ×V) :=
 if (kvs.any fun kv=>decide (kv.1=k))=true then kvs.map (fun kv=>if kv.1=k then(kv.1,v) else kv) else kvs++[(k,v)]
theorem A5{k:κ}:d9 ([]:List (κ×V)) k=none:=rfl
theorem d7{p:κ×V}{r:List (κ×V)}{k:κ}(e:p.1=k):d9 (p::r) k=some p.2:=by simp[d9,List.find?_cons,e]
theorem dU{p:κ×V}{r:List (κ×V)}{k:κ}(e:¬p.1=k):d9 (p::r) k=d9 r k:=by simp[d9,List.find?_cons,e]
theorem jt(k:κ):∀kvs:List (κ×V),(kvs.any fun kv=>decide (kv.1=k))=(d9 kvs k).isSome
 |[]=>rfl
 |p::r=>by
  rw[K0];by_cases e:p.1=k
  .simp only[d7 e,KO e,Bool.true_or,Option.isSome_some]
  .rw[dU e,Kl e,Bool.false_or];exact jt k r
theorem vE(k j:κ)(y:V):∀kvs:List (κ×V),d9 (kvs.map fun kv=>if kv.1=k then(kv.1,y) else kv) j=(d9 kvs j).map fun x=>if j=k then y else x
 |[]=>rfl
 |p::r=>by
  have ih:=vE k j y r;rw[J5];by_cases h:p.1=k
  .rw[JX h];by_cases e:p.1=j
   .rw[d7 (p:=(p.1,y)) e,d7 e,Option.map_some,JX (e.symm.trans h)]
   .rw[dU (p:=(p.1,y)) e,dU e,ih]
  .rw[JU h];by_cases e:p.1=j
   .rw[d7 (p:=p) e,d7 e,Option.map_some,JU (fun z=>h (e.trans z))]
   .rw[dU (p:=p) e,dU e,ih]
theorem sN(k j:κ)(y:V):∀kvs:List (κ×V),d9 kvs k=none->d9 (kvs++[(k,y)]) j=if j=k then some y else d9 kvs j
 |[],_=>by
  by_cases e:k=j
  .rw[JX e.symm];exact d7 (p:=(k,y)) e
  .rw[JU (fun z=>e z.symm)];exact dU (p:=(k,y)) e
 |p::r,hn=>by
  rw[Lf];have hk:¬p.1=k:=fun z=>by rw[d7 z]at hn;cases hn
  rw[dU hk]at hn;have ih:=sN k j y r hn;by_cases e:p.1=j
  .rw[d7 e,d7 e,JU (fun z=>hk (e.trans z))]
  .rw[dU e,dU e,ih]
theorem vD(kvs:List (κ×V))(k j:κ)(y:V):d9 (putK kvs k y) j=if j=k then some y else d9 kvs j:=by
 unfold putK;by_cases a:(kvs.any fun kv=>decide (kv.1=k))=true
 .rw[JX a,vE];rw[jt]at a;by_cases e:j=k
  .obtain⟨x,hx⟩:=Option.isSome_iff_exists.mp a;rw[JX e,e,hx,Option.map_some,JX rfl]
  .rw[JU e];cases d9 kvs j with
   |none=>rfl
   |some x=>rw[Option.map_some,JU e]
 .rw[JU a];refine sN k j y kvs ?_;rw[jt]at a;cases q:d9 kvs k with
  |none=>rfl
  |some x=>rw[q]at a;exact(a rfl).elim
theorem hV(kvs:List (κ×V))(k:κ)(v:V):(putK kvs k v).length<=kvs.length+1:=by
 unfold putK;split
 .rw[Kk];lia
 .rw[JT,JS,J7];lia
theorem qA{kvs:List (κ×V)}{k:κ}(v:V)(h:d9 kvs k=none):putK kvs k v=kvs++[(k,v)]:=by
 unfold putK;rw[jt,h];exact JU (by decide)
theorem kg.isSome_eq{o:Option V}{u:Option Value}(r:kg o u):o.isSome=u.isSome:=by
 cases o with
 |none=>cases u with
  |none=>rfl
  |some _=>exact(show False from r).elim
 |some _=>cases u with
  |none=>exact(show False from r).elim
  |some _=>rfl
theorem kg.getD{o:Option V}{u:Option Value}{d:V}{d':Value}(r:kg o u)(rd:RelV d d'):RelV (o.getD d) (u.getD d'):=by
 cases o with
 |none=>cases u with
  |none=>exact rd
  |some _=>exact(show False from r).elim
 |some _=>cases u with
  |none=>exact(show False from r).elim
  |some _=>exact r
theorem KV.val{kvs:List (κ×V)}{vs:List (κ×Value)}(r:KV kvs vs)(k:κ):kg (d9 kvs k) (valueAt vs k):=by
 unfold KV at r;induction r with
 |nil=>exact True.intro
 |@cons p q ps qs h t ih =>
  obtain⟨h1,h2⟩:=h;by_cases e:p.1=k
  .have e':q.1=k:=h1.symm.trans e;have b:valueAt (q::qs) k=some q.2:=by simp[valueAt,List.find?_cons,e']
   rw[d7 e,b];exact h2
  .have e':¬q.1=k:=fun z=>e (h1.trans z);have b:valueAt (q::qs) k=valueAt qs k:=by simp[valueAt,List.find?_cons,e']
   rw[dU e,b];exact ih
theorem KV.any{kvs:List (κ×V)}{vs:List (κ×Value)}(r:KV kvs vs)(k:κ):(kvs.any fun kv=>decide (kv.1=k))=vs.any fun kv=>decide (kv.1=k):=by
 unfold KV at r;induction r with
 |nil=>rfl
 |cons h t ih=>rw[K0,K0,ih,h.1]
theorem KV.repl{kvs:List (κ×V)}{vs:List (κ×Value)}(r:KV kvs vs)(k:κ)(ry:RelV y u):
  KV (kvs.map fun kv=>if kv.1=k then(kv.1,y) else kv) (vs.map fun kv=>if kv.1=k then(kv.1,u) else kv):=by
 unfold KV at r ⊢;induction r with
 |nil=>exact .nil
 |@cons p q ps qs h t ih =>
  rw[J5,J5];refine .cons ?_ ih;obtain⟨h1,h2⟩:=h;by_cases e:p.1=k
  .rw[JX e,JX (h1.symm.trans e)];exact⟨h1,ry⟩
  .rw[JU e,JU (fun z=>e (h1.trans z))];exact⟨h1,h2⟩
theorem KV.put{kvs:List (κ×V)}{vs:List (κ×Value)}(r:KV kvs vs)(k:κ)(ry:RelV y u):KV (putK kvs k y) (stored vs k u):=by
 unfold putK stored;rw[r.any k];by_cases e:(vs.any fun kv=>decide (kv.1=k))=true
 .rw[JX e,JX e];exact r.repl k ry
 .rw[JU e,JU e];exact Paired.snoc r ⟨rfl,ry⟩
theorem KV.length{kvs:List (κ×V)}{vs:List (κ×Value)}(r:KV kvs vs):kvs.length=vs.length:=Paired.length r
end
theorem qZ{w:World}{k:Key}(r:RelV (kV k) u):(gq P w).is k u=true:=by
 cases k with
 |inl i=>obtain⟨t,e⟩:=(show ∃t,u=Value.int i t from r);subst e;exact wq P w i t
 |inr x=>obtain⟨t,e⟩:=(show ∃t,u=Value.str x t from r);subst e;exact kO P w x t
noncomputable abbrev KT(H:Hp):List (KD×V)->List (KD×Addr×Value)->Prop:=Paired fun p q=>p.1=q.1/\vA H q.2.1 p.1/\RelV p.2 q.2.2
theorem KT.val{xs:List (KD×Addr×Value)}(r:KT H kvs xs)(k:KD):kg (d9 kvs k) ((atKey xs k).map (·.2)):=by
 induction r with
 |nil=>exact True.intro
 |@cons p q ps qs h t ih =>
  obtain⟨h1,_,h2⟩:=h;by_cases e:p.1=k
  .have e':q.1=k:=h1.symm.trans e;have b:atKey (q::qs) k=some q.2:=by simp[atKey,List.find?_cons,e']
   rw[d7 e,b];exact h2
  .have e':¬q.1=k:=fun z=>e (h1.trans z);have b:atKey (q::qs) k=atKey qs k:=by simp[atKey,List.find?_cons,e']
   rw[dU e,b];exact ih
theorem KT.repl{xs:List (KD×Addr×Value)}(r:KT H kvs xs)(k:KD)(ry:RelV y u):
  KT H (kvs.map fun kv=>if kv.1=k then(kv.1,y) else kv) (xs.map (putAt k u)):=by
 induction r with
 |nil=>exact .nil
 |@cons p q ps qs h t ih =>
  rw[J5,J5];refine .cons ?_ ih;obtain⟨h1,h2,h3⟩:=h;unfold putAt;by_cases e:p.1=k
  .rw[JX e,JX (h1.symm.trans e)];exact⟨h1,h2,ry⟩
  .rw[JU e,JU (fun z=>e (h1.trans z))];exact⟨h1,h2,h3⟩
theorem KT.put{xs:List (KD×Addr×Value)}(r:KT H kvs xs)(k:KD)(hb:vA H b k)(ry:RelV y u):
  KT H (putK kvs k y) (storedH xs k b u):=by
 have e:(kvs.any fun kv=>decide (kv.1=k))=(atKey xs k).isSome:=by
  rw[jt,(r.val k).isSome_eq,Option.isSome_map]
 unfold putK storedH;rw[e];by_cases q:(atKey xs k).isSome=true
 .rw[JX q,JX q];exact r.repl k ry
 .rw[JU q,JU q];exact Paired.snoc r ⟨rfl,hb,ry⟩
theorem KT.keeps{xs:List (KD×Addr×Value)}(r:KT H kvs xs)(ht:∀b ys,H b=some (.tup ys)->H' b=some (.tup ys))(hf:∀b ob ys,H b=some (.frz ob (.tup ys))->H' b=some (.frz ob (.tup ys))):KT H' kvs xs :=
 Paired.mapP r fun _ _ z=>⟨z.1,z.2.1.mono ht hf,z.2.2⟩
section
variable{w:World}
theorem Ft{u:HO}(ok:lB P w H h)(e:Rd H a u):d0 P w H h a u:=e.ok ok
theorem rD{kvs:List (Key×V)}(ok:lB P w H h)(e:Rd H a (.dK kvs)):kvs.length<=sizeLine/\(a==sysModules)=false/\∃vs,KV kvs vs/\h.DictOf (gq P w) a vs :=
 show d0 P w H h a (.dK kvs) from Ft ok e
theorem FJ{kvs:List (Key×V)}(ok:lB P w H h)(e:H a=some (.dK kvs)):kvs.length<=sizeLine/\(a==sysModules)=false/\∃vs,KV kvs vs/\h.DictOf (gq P w) a vs:=rD ok (.inl e)
theorem Gz(ok:lB P w H h):∀k:KD,(∀vs us,nY H vs k->aU vs us->bE h k us)/\∀v u,rQ H v k->RelV v u->nZ h k u:=by
 have tup:∀k:KD,(∀vs us,nY H vs k->aU vs us->bE h k us)->∀v u,rQ H v k->RelV v u->nZ h k u:=by
  intro k it v u x r;rcases x.shape with⟨i,rfl,rfl⟩|⟨y,rfl,rfl⟩|⟨a,xs,rfl,hh,q⟩
  .obtain⟨t,rfl⟩:=r;exact .int
  .obtain⟨t,rfl⟩:=r;exact .str
  .obtain rfl:u=Value.ref a:=r;obtain⟨_,its,r,o,h1,h2,n,h3⟩:=(show d0 P w H h a (.tup xs) from(show Rd H a (.tup xs) from hh).ok ok)
   exact .tup h1 h2 h3 (it _ _ q (by simpa using r))
 intro k;induction k with
 |int i=>have it:∀vs us,nY H vs (.int i)->aU vs us->bE h (.int i) us:=fun _ _ z=>nomatch z;exact⟨it,tup _ it⟩
 |str i=>have it:∀vs us,nY H vs (.str i)->aU vs us->bE h (.str i) us:=fun _ _ z=>nomatch z;exact⟨it,tup _ it⟩
 |nil =>
  have it:∀vs us,nY H vs .nil->aU vs us->bE h .nil us:=fun _ _ z r=>by cases z;cases r;exact .nil
  exact⟨it,tup _ it⟩
 |cons a r iha ihr =>
  have it:∀vs us,nY H vs (.cons a r)->aU vs us->bE h (.cons a r) us:=fun _ _ z r=>by
   cases z with
   |cons h1 h2 =>
    cases r with
    |cons r1 r2=>exact .cons (iha.2 _ _ h1 r1) (ihr.1 _ _ h2 r2)
  exact⟨it,tup _ it⟩
theorem kX{k:KD}(ok:lB P w H h)(e:vA H a k):(j2 P w).is h k a:=⟨(Gz ok k).2 _ _ e.1 rfl,e.2⟩
theorem lM{A:Around}(hu:A.units+64<cLine):(j2 P w).room A.in1:=by
 show A.in1.units+16<cLine;simp only[Around.in1_units];lia
theorem rB(ok:lB P w H h)(e:Rd H a (.dT kvs)):kvs.length<=sizeLine/\(a==sysModules)=false /\
  ∃xs,KT H kvs xs/\h.DictOfH (j2 P w) a xs:=by
 obtain⟨z,y,xs,r,o,es,ep,h1,h2,h3,h4,h5⟩:=(show d0 P w H h a (.dT kvs) from Ft ok e)
 refine⟨z,y,xs,r,o,es,ep,h1,h2,h3,h4,fun x hx=>?_,h5⟩;have all:∀{l:List (KD×V)} {m:List (KD×Addr×Value)},KT H l m->∀x∈m,(j2 P w).is h x.1 x.2.1:=by
  intro l m q;induction q with
  |nil=>intro x hx;exact nomatch hx
  |@cons p q ps qs hq t ih =>
   intro x hx;rcases Kg.mp hx with e|hx
   .subst e;exact kX ok (by rw[<-hq.1];exact hq.2.1)
   .exact ih x hx
 exact all r x hx
theorem CT(ok:lB P w H h)(e:H a=some (.dT kvs)):kvs.length<=sizeLine/\(a==sysModules)=false /\
  ∃xs,KT H kvs xs/\h.DictOfH (j2 P w) a xs:=rB ok (.inl e)
end
noncomputable def vx(H:Hp)(a:Addr)(y:V)(r:Option V):Prop :=
 (∃kvs k,Rd H a (.dK kvs)/\y=kV k/\r=d9 kvs k)\/∃kvs k b,Rd H a (.dT kvs)/\y = .ref b/\vA H b k/\r=d9 kvs k
noncomputable def Dq(H:Hp)(a:Addr)(y v:V)(H':Hp):Prop :=
 (∃kvs k,H a=some (.dK kvs)/\y=kV k/\kvs.length<sizeLine/\H'=upd H a (.dK (putK kvs k v))) \/
 ∃kvs k b,H a=some (.dT kvs)/\y = .ref b/\vA H b k/\kvs.length<sizeLine/\H'=upd H a (.dT (putK kvs k v))
theorem Dq.t{k:KD}{v:V}(e:H a=some (.dT kvs))(eb:vA H b k)(hl:kvs.length<sizeLine):
  Dq H a (.ref b) v (upd H a (.dT (putK kvs k v))):=.inr ⟨kvs,k,b,e,rfl,eb,hl,rfl⟩
section
variable{σ:St}{v:V}{r:Value}{o:Option V}{A:Around}
theorem Inv.big(I:Inv X pins σ H s):sysModules<s.heap.objs.size:=by
 have h:mainGlobals<s.heap.objs.size:=(I.mod.glob.keeps I.bk).lt;exact Nat.lt_trans (by decide) h
theorem AS(hu:A.units+64<cLine)(I:Inv X pins σ H s)(g:vx H a y (some v))(ry:RelV y u)(h:∀w' s',Inv X pins σ H s'->RelV v w'->Q w' s'):
  wpAny (model X.prog X.w) A (getItem (.ref a) u) Q E s:=by
 rcases g with⟨kvs,k,e,ey,l⟩|⟨kvs,k,b,e,ey,eb,l⟩
 .subst ey;obtain⟨z,hd,vs,rel,dd⟩:=rD I.hok e;obtain⟨w',hw,rw'⟩:=kg.some_of (v:=v) (o:=valueAt vs k) (by rw[l];exact rel.val k);exact wpAny_getItem_of (qZ ry) dd.mapOf hw (h w' _ (I.tok _) rw')
 .subst ey;cases (show u=Value.ref b from ry);obtain⟨z,hd,xs,rel,dd⟩:=rB I.hok e;obtain⟨w',hw,rw'⟩:=kg.some_of (v:=v) (o:=(atKey xs k).map (·.2)) (by rw[l];exact rel.val k);obtain⟨p,hp,hp2⟩:=Kh.mp hw;refine wpAny_getItem_heap (lM hu) (kX I.hok eb) dd hp ?_;rw[hp2];exact h w' _ (I.tok _) rw'
theorem IR(hu:A.units+64<cLine)(I:Inv X pins σ H s)(g:vx H a y o)(ry:RelV y u)(h:∀s',Inv X pins σ H s'->Q (.bool o.isSome) s'):
  wpAny (model X.prog X.w) A (compareOp .In u (.ref a)) Q E s:=by
 rcases g with⟨kvs,k,e,ey,l⟩|⟨kvs,k,b,e,ey,eb,l⟩
 .subst ey;obtain⟨z,hd,vs,rel,dd⟩:=rD I.hok e;refine wpAny_in_of (qZ ry) hd dd.mapOf ?_;rw[<-(rel.val k).isSome_eq,<-l];exact h _ (I.tok _)
 .subst ey;cases (show u=Value.ref b from ry);obtain⟨z,hd,xs,rel,dd⟩:=rB I.hok e;refine wpAny_in_heap (lM hu) (kX I.hok eb) hd dd ?_;have q:=(rel.val k).isSome_eq;rw[Option.isSome_map]at q;rw[<-q,<-l];exact h _ (I.tok _)
theorem EE(hu:A.units+64<cLine)(I:Inv X pins σ H s)(g:vx H a y o)(ry:RelV y u)(h:∀s',Inv X pins σ H s'->Q (.bool (!o.isSome)) s'):
  wpAny (model X.prog X.w) A (compareOp .NotIn u (.ref a)) Q E s:=by
 rcases g with⟨kvs,k,e,ey,l⟩|⟨kvs,k,b,e,ey,eb,l⟩
 .subst ey;obtain⟨z,hd,vs,rel,dd⟩:=rD I.hok e;refine wpAny_notIn_of (qZ ry) hd dd.mapOf ?_;rw[<-(rel.val k).isSome_eq,<-l];exact h _ (I.tok _)
 .subst ey;cases (show u=Value.ref b from ry);obtain⟨z,hd,xs,rel,dd⟩:=rB I.hok e;refine wpAny_notIn_heap (lM hu) (kX I.hok eb) hd dd ?_;have q:=(rel.val k).isSome_eq;rw[Option.isSome_map]at q;rw[<-q,<-l];exact h _ (I.tok _)
theorem nI{ob:HO}(I:Inv X pins σ H s)(mu:EY (H a))(hs:Heap.SameBut a s.heap h')(he:∃q,h'.get? a=some q)(new:d0 X.prog X.w (upd H a ob) h' a ob):
  Inv X pins σ (upd H a ob) {s with heap:=h',toks:=t'} :=
 I.write (x:=a) (e:=a) mu (.inl rfl) (fun b q hb z=>(hs.2 b hb).trans z) he new
theorem CV{w:World}{kvs:List (Key×V)}{vs:List (Key×Value)}(z:kvs.length<=sizeLine)(hd:(a==sysModules)=false)(rel:KV kvs vs)(dd:h'.DictOf (gq P w) a vs):
  d0 P w H' h' a (.dK kvs):=⟨z,hd,vs,rel,dd⟩
theorem AQ{Q:Unit->Shared->Prop}(hu:A.units+64<cLine)(I:Inv X pins σ H s)(g:Dq H a y v H')(ry:RelV y u)(rv:RelV v r)(h:∀s',Inv X pins σ H' s'->Q () s'):
  wpAny (model X.prog X.w) A (setItem (.ref a) u r) Q E s:=by
 rcases g with⟨kvs,k,e,ey,l,eH⟩|⟨kvs,k,b,e,ey,eb,l,eH⟩
 .subst ey eH;obtain⟨z,hd,vs,rel,dd⟩:=FJ I.hok e;have hz:vs.length<=sizeLine:=by rw[<-rel.length];exact z
  have hl:(putK kvs k v).length<=sizeLine:=by have:=hV kvs k v;lia
  refine wpAny_setItem_pairs (hsz:=hz) (qZ ry) dd fun h' dd' hs=>h _ ?_;have he:∃q,h'.get? a=some q:=let ⟨q,_,_,hq,_⟩:=dd';⟨q,hq⟩;exact nI I (by rw[e];exact True.intro) hs he (CV hl hd (rel.put k rv) dd')
 .subst ey eH;cases (show u=Value.ref b from ry);obtain⟨z,hd,xs,rel,dd⟩:=CT I.hok e;have hz:xs.length<=sizeLine:=by rw[<-Paired.length rel];exact z
  have hl:(putK kvs k v).length<=sizeLine:=by have:=hV kvs k v;lia
  refine wpAny_setItem_heap (hsz:=hz) (lM hu) (kX I.hok eb) dd fun h' dd' hs=>h _ ?_;obtain⟨q,es,ep,hq,h2,h3,h4,_,h5⟩:=dd';refine nI I (by rw[e];exact True.intro) hs ⟨q,hq⟩ ⟨hl,hd,_,(rel.put k eb rv).keeps (fun c ys ec=>by rw[ai (bH ec e (fun z=>nomatch z))];exact ec) (fun c ob ys ec=>by rw[ai (bH ec e (fun z=>nomatch z))];exact ec),q,es,ep,hq,h2,h3,h4,h5⟩
end
noncomputable def Im(i:Expr):Prop:=∀ov iv,subscripted i false ov iv=operate [ov,iv] (getItem ov iv)
theorem DE{prog:Program}{w:World}{A:Around}{env:Env}{slice:Expr}{id:String}(hl:typeLookup (.type T) "__getitem__"=pure (some (.builtin id)))(hs:Im slice)(h:wpAny (model prog w) A (eval value env) (fun o s₁=>wpAny (model prog w) A (eval slice env) (fun i s₂=>s₂.TypeIs o T/\wpAny (model prog w) A (getItem o i) Q E s₂) E s₁) E s):
  wpAny (model prog w) A (eval (.Subscript value slice pos) env) Q E s:=by
 refine Subscript_ (KR h (fun o s₁ h₁=>KR h₁ (fun i s₂ h₂=>?_) fun _ _ x=>x) fun _ _ x=>x);obtain⟨hT,h₂⟩:=h₂;unfold subscriptTail;refine JR ?_;rw[getitemInPython_of_ne hT.not_modules];refine JR (wpAny_specialOf hT hl ?_);have fin:wpAny (model prog w) A (subscripted slice false o i) (fun r s₃=>wpAny (model prog w) A (letTemporaryGo value o r >>= fun _=>pure r) Q E s₃) E s₂:=by
  rw[hs o i];exact wpAny_operating (KR h₂ (fun r s₃ h₃=>JR (wpAny_letTemporaryGo (JV h₃))) fun _ _ x=>x)
 first
  |exact JV (JR fin)
  |exact JR (JV (JR fin))
  |exact JR fin
theorem wW{σ:St}{o:Option V}(I:Inv X pins σ H s)(g:vx H a y o):s.TypeIs (.ref a) "dict":=by
 rcases g with⟨kvs,k,e,_,_⟩|⟨kvs,k,b,e,_,_,_⟩
 .obtain⟨_,_,vs,_,dd⟩:=rD I.hok e;exact dd.typeIs
 .obtain⟨_,_,xs,_,dd⟩:=rB I.hok e;exact dd.typeIs
inductive Jq (H:Hp) (y:V) (a:Addr) (Q:VK):Prop
 |mk (v:V) (_:vx H a y (some v)) (_:Q v H)
inductive xB (H:Hp) (y:V) (a:Addr) (Q:Option V->Prop):Prop
 |mk (o:Option V) (_:vx H a y o) (_:Q o)
inductive yQ (H:Hp) (y v:V) (a:Addr) (Q:Hp->Prop):Prop
 |mk (H':Hp) (_:Dq H a y v H') (_:Q H')
noncomputable def Fi(td ty:TE):TE:=fun σ H Q=>td σ H fun x H1=>ty σ H1 fun y H2=>kh x fun a=>Jq H2 y a Q
noncomputable def Hs(ty td:TE):TE:=fun σ H Q=>ty σ H fun y H1=>td σ H1 fun x H2=>kh x fun a=>xB H2 y a fun o=>Q (.bl o.isSome) H2
noncomputable def yX(ty td:TE):TE:=fun σ H Q=>ty σ H fun y H1=>td σ H1 fun x H2=>kh x fun a=>xB H2 y a fun o=>Q (.bl (!o.isSome)) H2
noncomputable def Fp(td ty tv:TE):TS:=fun D σ H=>tv σ H fun v H1=>td σ H1 fun x H2=>ty σ H2 fun y H3=>kh x fun a=>yQ H3 y v a (D.nx σ)
section
variable{o i:Expr}{ty:TE}
theorem pX(hu:X.A.units+64<cLine)(ho:PE X o td)(hi:PE X i ty)(hs:Im i):PE X (.Subscript o i pos) (Fi td ty):=by
 intro pins s σ H Q I h;refine DE PySem.F.slot_dict_getitem.lookup hs (cO (ho pins s σ H _ I h) fun u s1 ⟨x,H1,I1,rx,q1⟩=>cO (hi pins s1 σ H1 _ I1 q1) fun iv s2 ⟨y,H2,I2,ry,qr⟩=>?_);obtain⟨a,ex,v,g,q2⟩:=fC qr;subst ex;obtain rfl:u=Value.ref a:=rx;exact⟨wW I2 g,AS hu I2 g ry fun w' s3 I3 rw'=>⟨v,H2,I3,rw',q2⟩⟩
theorem uo(hu:X.A.units+64<cLine)(hi:PE X i ty)(ho:PE X o td):PC X .In i o (Hs ty td):=by
 intro pins s σ H Q I h;refine cO (hi pins s σ H _ I h) fun iv s1 ⟨y,H1,I1,ry,q1⟩=>cO (ho pins s1 σ H1 _ I1 q1) fun u s2 ⟨x,H2,I2,rx,qr⟩=>?_;obtain⟨a,ex,ov,g,q2⟩:=fC qr;subst ex;obtain rfl:u=Value.ref a:=rx;exact IR hu I2 g ry fun s3 I3=>⟨.bl ov.isSome,H2,I3,rfl,q2⟩
theorem sV(hu:X.A.units+64<cLine)(hi:PE X i ty)(ho:PE X o td):PC X .NotIn i o (yX ty td):=by
 intro pins s σ H Q I h;refine cO (hi pins s σ H _ I h) fun iv s1 ⟨y,H1,I1,ry,q1⟩=>cO (ho pins s1 σ H1 _ I1 q1) fun u s2 ⟨x,H2,I2,rx,qr⟩=>?_;obtain⟨a,ex,ov,g,q2⟩:=fC qr;subst ex;obtain rfl:u=Value.ref a:=rx;exact EE hu I2 g ry fun s3 I3=>⟨.bl (!ov.isSome),H2,I3,rfl,q2⟩
theorem ui(hu:X.A.units+64<cLine)(ho:PE X o td)(hi:PE X i ty)(hv:PE X value tv)(hs:swapsWith value (some (.Subscript o i pos')) pos.line X.env=pure false):
  PS X (.Assign [.Subscript o i pos'] value pos) (Fp td ty tv):=by
 intro pins s σ H D I h;refine wpAny_Assign_Subscript (cO (hv pins s σ H _ I h) fun r s1 ⟨v,H1,I1,rv,q1⟩=>cO (ho pins s1 σ H1 _ I1 q1) fun u s2 ⟨x,H2,I2,rx,q2⟩=>cO (hi pins s2 σ H2 _ I2 q2) fun iv s3 ⟨y,H3,I3,ry,qr⟩=>?_) hs;obtain⟨a,ex,H4,g,q3⟩:=fC qr;subst ex;obtain rfl:u=Value.ref a:=rx;exact AQ hu I3 g ry rv fun s4 I4=>⟨σ,H4,I4,q3⟩
end
theorem CW{w:World}(h:Heap)(hb:sysModules<h.objs.size):d0 P w H (h.push {cls:=.type "dict",data:=.dict #[]}) h.objs.size (.dK []) :=
 ⟨Kq _,KP.mpr (Ne.symm (Kv hb)),[],.nil,Heap.DictOf.new h⟩
theorem wU{w:World}(h:Heap)(hb:sysModules<h.objs.size):d0 P w H (h.push {cls:=.type "dict",data:=.dict #[]}) h.objs.size (.dT []) :=
 ⟨Kq _,KP.mpr (Ne.symm (Kv hb)),[],.nil,_,#[],0,J6 _ rfl,⟨rfl,rfl,rfl⟩,rfl,rfl,List.nodup_nil⟩
noncomputable def Be:TE:=fun _ H Q=>∀p,H p=none->Q (.ref p) (upd H p (.dK []))
noncomputable def Bd:TE:=fun _ H Q=>∀p,H p=none->Q (.ref p) (upd H p (.dT []))
section
theorem BY:PE X (.Dict [] [] pos) Be:=fun pins s σ H Q I h =>
 wpAny_Dict_empty ⟨.ref s.heap.objs.size,_,I.laid (a:=s.heap.objs.size) (o:=.dK []) (t':=s.toks) (fun _ _ q=>JZ _ q) (JY _) (CW s.heap I.big),rfl,h _ (I.hok.fresh (JY _))⟩
theorem kA:PE X (.Dict [] [] pos) Bd:=fun pins s σ H Q I h =>
 wpAny_Dict_empty ⟨.ref s.heap.objs.size,_,I.laid (a:=s.heap.objs.size) (o:=.dT []) (t':=s.toks) (fun _ _ q=>JZ _ q) (JY _) (wU s.heap I.big),rfl,h _ (I.hok.fresh (JY _))⟩
end
structure M2 (X:Cx) (o:Expr) (m:Str) (apos:Pos) (e f:Expr) (cpos:Pos):Prop where
 base:attributeBase o m X.env (eval o X.env)=eval o X.env
 few:((backTo cpos (starEach [e,f] X.env)).all (fun x=>!x.1)&&(backToKw cpos (keywordEach [] X.env)).all (fun x=>x.1.isSome)
  && decide (([e,f]:List Expr).length+([]:List Keyword).length+(if ([]:List Keyword).isEmpty then 0 else 1)<30))=true
 line:(apos.endLine==cpos.line)=true
 trees:backTo cpos (starEach [e,f] X.env)=[(false,eval e X.env),(false,eval f X.env)]
noncomputable def He(H:Hp)(a:Addr):Prop:=(∃kvs,Rd H a (.dK kvs))\/∃kvs,Rd H a (.dT kvs)
theorem Cs{σ:St}(I:Inv X pins σ H s)(d:He H a):
  s.TypeIs (.ref a) "dict"/\(∀b,Value.ref a = .ref b->∃ob,s.heap.get? b=some ob/\ob.dict=none)/\(a==sysModules)=false:=by
 rcases d with⟨kvs,e⟩|⟨kvs,e⟩
 .obtain⟨_,hd,vs,_,dd⟩:=rD I.hok e;refine⟨dd.typeIs,fun b q=>?_,hd⟩;cases q;obtain⟨ob,_,_,h1,h2,_⟩:=dd;exact⟨ob,h1,h2.2.1⟩
 .obtain⟨_,hd,xs,_,dd⟩:=rB I.hok e;refine⟨dd.typeIs,fun b q=>?_,hd⟩;cases q;obtain⟨ob,_,_,h1,h2,_⟩:=dd;exact⟨ob,h1,h2.2.1⟩
section
variable{σ:St}{d:V}{r:Value}{o:Option V}{A:Around}
theorem GN(hu:A.units+64<cLine)(I:Inv X pins σ H s)(g:vx H a y o)(ry:RelV y u)(rd:RelV d r)(h:∀w' s',Inv X pins σ H s'->RelV (o.getD d) w'->Q w' s'):
  wpAny (model X.prog X.w) A (call (.builtin "dict.get") [.ref a,u,r]) Q E s:=by
 rcases g with⟨kvs,k,e,ey,l⟩|⟨kvs,k,b,e,ey,eb,l⟩
 .subst ey;obtain⟨z,hd,vs,rel,dd⟩:=rD I.hok e;refine call_meetsIn PySem.F.slot_dict_get dd.typeIs PySem.F.entry_dict_get (PySem.F.args_dict_get_3 _ _ _) (meets_dict_get_default (gq X.prog X.w) a (qZ ry) hd r) ⟨_,dd.mapOf,h _ _ (I.tok _) ?_⟩;rw[l];exact(rel.val k).getD rd
 .subst ey;cases (show u=Value.ref b from ry);obtain⟨z,hd,xs,rel,dd⟩:=rB I.hok e;refine call_meetsIn PySem.F.slot_dict_get dd.typeIs PySem.F.entry_dict_get (PySem.F.args_dict_get_3 _ _ _) (meetsH_dict_get_default (j2 X.prog X.w) a b hd r) ⟨lM hu,k,xs,kX I.hok eb,dd,h _ _ (I.tok _) ?_⟩;rw[l];exact(rel.val k).getD rd
end
noncomputable def Bf(td ty tx:TE):TE:=fun σ H Q=>td σ H fun x H1=>kh x fun a=>He H1 a/\ty σ H1 fun y H2=>tx σ H2 fun z H3=>∃o,vx H3 a y o/\Q (o.getD z) H3
section
variable{o f:Expr}{ty tx:TE}
theorem B0(hu:X.A.units+64<cLine)(ho:PE X o td)(he:PE X e ty)(hf:PE X f tx)(m:M2 X o "get" apos e f cpos):PE X (.Call (.Attribute o "get" apos) [e,f] [] cpos) (Bf td ty tx):=by
 intro pins s σ H Q I h;refine wpAny_Call_method m.base m.few m.line PySem.F.plainAttrs_dict PySem.F.slot_dict_get PySem.F.type_dict_get (cO (ho pins s σ H _ I h) fun u s1 ⟨x,H1,I1,rx,qr⟩=>?_);obtain⟨a,ex,d,q1⟩:=fC qr;subst ex;obtain rfl:u=Value.ref a:=rx;obtain⟨t1,t2,_⟩:=Cs I1 d;refine⟨t1,t2,?_⟩;rw[m.trees];refine Calls.callWith_builtin rfl (Calls.evalArgs_plain (Calls.spliced_cons (cO (he pins s1 σ H1 _ I1 q1) fun iv s2 ⟨y,H2,I2,ry,q2⟩ =>
  Calls.spliced_cons (cO (hf pins s2 σ H2 _ I2 q2) fun fv s3 ⟨z,H3,I3,rz,ov,g,q3⟩=>Calls.spliced_nil ?_))))
 exact GN hu I3 g ry rz fun w' s4 I4 rw'=>⟨_,H3,I4,rw',q3⟩
end
section
theorem pairs_of{σ:St}(I:Inv X pins σ H s):∀{ps:List Addr} {kvs:List (Key×V)},Paired (fun p kv=>gG X.K H p [kV kv.1,kv.2]) ps kvs ->
  ∃prs:List (Key×Value),KV kvs prs/\prs.length=ps.length/\∀(j:Nat) (q:Key×Value),prs[j]?=some q->∃(b:Addr) (u:Value),ps[j]?=some b/\IsTup s.heap b #[u,q.2]/\nB q.1 u=true
 |_,_,.nil=>⟨[],.nil,rfl,fun j q e=>by simp at e⟩
 |_,_,.cons (a:=p) (b:=kv) h t=>by
  obtain⟨prs,r,hl,hp⟩:=pairs_of I t;obtain⟨its,rv,ht,_⟩:=I.tuple h;obtain⟨u,y,ei,ru,ry⟩:=vals2 rv;subst ei;refine⟨(kv.1,y)::prs,.cons ⟨rfl,ry⟩ r,by rw[JS,JS,hl],fun j q e=>?_⟩;cases j with
  |zero =>
   have e':(kv.1,y)=q:=Ku e;subst e';exact⟨p,u,rfl,ht,qZ (P:=X.prog) (w:=X.w) ru⟩
  |succ j =>
   obtain⟨b,u',e1,e2,e3⟩:=hp j q (by simpa using e);exact⟨b,u',by simpa using e1,e2,e3⟩
end
section
variable{σ:St}
theorem Inv.turnedNew{T:Addr}{ob:HO}(I:Inv X pins σ H s)(k:∀b o,b∉ch->s.heap.get? b=some o->h'.get? b=some o)(hf:∀b∈ch,mM X pins H b)(hT:s.heap.objs.size<=T)(new:d0 X.prog X.w (upd H T ob) h' T ob):Inv X pins σ (upd H T ob) {s with heap:=h',toks:=t'}:=by
 have hn:H T=none:=I.hok.fresh hT;have nit:∀b u,H b=some u->b∉ch:=fun b u e z=>by
  have q:=(hf b z).1;rw[q]at e;cases e
 refine I.step (g':=s.gens) (d':=s.drawn) (ch:=ch) (fun b hb=>⟨(hf b hb).2.2.2.1,(hf b hb).2.1,(hf b hb).2.2.2.2.1,(hf b hb).2.2.2.2.2⟩) (fun b o _ _ hc e _=>k b o hc e) (fun b o _ _ hc e _=>⟨o.slots,k b o hc e⟩)
  (fun b o _ e n=>?_) (fun b o hc e=>⟨o,k b o hc e⟩) (fun b xs e=>?_) (fun b o u e=>?_) (fun b ps e=>⟨#[],?_⟩) (fun m hm=>?_) (fun b u e=>?_) I.bare
 .rw[ai (Kv (Ki (Kc e) hT))];exact n
 .rw[ai (aH e hn)];exact e
 .rw[ai (aH e hn)];exact e
 .rw[ai (aH e hn),e];simp
 .obtain⟨o,es,ep,ho,r⟩:=hm;exact⟨o,es,ep,k _ o (fun z=>(hf _ z).2.1 rfl) ho,r⟩
 .by_cases hb:b=T
  .subst hb;rw[af]at e;cases e;exact new
  .rw[ai hb]at e;refine(I.hok b u e).stay (fun c v hc q=>k c v ?_ q) (fun c q=>by rw[ai (aH q hn)];exact q) (fun c xs q=>by rw[ai (aH q hn)];exact q) fun c ob xs q=>by rw[ai (aH q hn)];exact q
   rcases hc with z|z
   .rw[z];exact nit b u e
   .exact nit c _ z
theorem Inv.lock{d:Addr}{u:HO}(I:Inv X pins σ H s)(h:H d=some u)(mu:EY (some u)):∃od,Inv X pins σ (upd H d (.frz od u)) s:=by
 have x:=I.hok d u h;have ex:∃od,s.heap.get? d=some od:=by
  cases u with
  |lst xs=>obtain⟨_,_,_,_,e⟩:=x;exact⟨_,e⟩
  |dK kvs=>obtain⟨_,_,_,_,o,_,_,e,_⟩:=x;exact⟨o,e⟩
  |dT kvs=>obtain⟨_,_,_,_,o,_,_,e,_⟩:=x;exact⟨o,e⟩
  |set S n=>obtain⟨o,_,_,_,e,_⟩:=x;exact⟨o,e⟩
  |ins C dx fs=>obtain⟨_,_,_,e,_⟩:=x;exact⟨_,e⟩
  |ext φ=>obtain⟨_,⟨_,e⟩,_⟩:=x;exact⟨_,e⟩
  |_=>exact False.elim mu
 obtain⟨od,e⟩:=ex;have new:d0 X.prog X.w (upd H d (.frz od u)) s.heap d (.frz od u):=by
  refine⟨e,x.stay (fun b v _ q=>q) (fun b q=>?_) (fun b xs q=>?_) fun b ob xs q=>?_⟩
  .rw[ai (fun z=>by rw[z,h]at q;cases q;exact mu)];exact q
  .rw[ai (fun z=>by rw[z,h]at q;cases q;exact mu)];exact q
  .rw[ai (fun z=>by rw[z,h]at q;cases q;exact mu)];exact q
 exact⟨od,I.write (x:=d) (e:=d) (t':=s.toks) (h':=s.heap) (by rw[h];exact mu) (.inl rfl) (fun b v _ q=>q) ⟨od,e⟩ new⟩
theorem Inv.nofrz{d:Addr}{u:HO}(I:Inv X pins σ H s)(h:H d=some u)(mu:EY (some u)):∀o' u',X.H_0 d≠some (.frz o' u'):=fun o' u' e=>by
 have q:=I.base.frzs d o' u' e;rw[h]at q;cases q;exact mu
theorem Inv.unlock{d:Addr}{u:HO}(I:Inv X pins σ H s)(h:H d=some (.frz od u))(hn:∀o' u',X.H_0 d≠some (.frz o' u'))(mu:EY (some u)):Inv X pins σ (upd H d u) s:=by
 have neH:∀b o,H b=some o->(∀o' u',o ≠ .frz o' u')->b≠d:=fun b o e hne z=>by
  rw[z,h]at e;cases e;exact hne _ _ rfl
 have neN:∀b,H b=none->b≠d:=fun b e z=>by rw[z,h]at e;cases e
 refine⟨I.ok,I.os,I.bare,⟨I.base.keep,I.base.slot,fun b o e n hx=>?_,I.base.there,fun b xs e=>?_,fun b o x e=>?_,fun b ps e=>?_⟩,I.loc,I.cell,?_,fun x c e=>?_,fun p hp=>?_,fun b o e=>?_,I.len⟩
 .rw[ai (neN b (I.base.free b o e n hx))];exact I.base.free b o e n hx
 .have q:=I.base.tups b xs e;rw[ai (neH b _ q (fun _ _ z=>nomatch z))];exact q
 .have q:=I.base.frzs b o x e;rw[ai (fun z=>by rw[z]at e;exact hn _ _ e)];exact q
 .obtain⟨m,q⟩:=I.base.tbls b ps e;exact⟨m,by rw[ai (neH b _ q (fun _ _ z=>nomatch z))];exact q⟩
 .rw[ai (neN _ I.free)];exact I.free
 .rw[ai (neN c (I.freeC x c e))];exact I.freeC x c e
 .obtain⟨e,n,r⟩:=I.pin p hp;exact⟨e,by rw[ai (neN _ n)];exact n,r⟩
 .by_cases hb:b=d
  .rw[hb,af]at e;cases e;rw[hb];obtain⟨_,x⟩:=I.hok d _ h;exact x.stay (fun c v _ q=>q) (fun c q=>by rw[ai (neH c _ q (fun _ _ z=>nomatch z))];exact q) (fun c xs q=>by rw[ai (neH c _ q (fun _ _ z=>nomatch z))];exact q) fun c ob xs q=>by rw[ai (fun z=>by rw[z,h]at q;cases q;exact mu)];exact q
  .rw[ai hb]at e;exact(I.hok b o e).stay (fun c v _ q=>q) (fun c q=>by rw[ai (neH c _ q (fun _ _ z=>nomatch z))];exact q) (fun c xs q=>by rw[ai (neH c _ q (fun _ _ z=>nomatch z))];exact q) fun c ob xs q=>by rw[ai (fun z=>by rw[z,h]at q;cases q;exact mu)];exact q
end
noncomputable def Hm(t:TS):TS:=fun D σ H=>∃d u,H d=some u/\EY (some u)/\∀od,t ⟨fun σ' H'=>H' d=some (.frz od u)/\D.nx σ' (upd H' d u),fun v H'=>H' d=some (.frz od u)/\D.rt v (upd H' d u),fun σ' H'=>H' d=some (.frz od u)/\D.bk σ' (upd H' d u),fun σ' H'=>H' d=some (.frz od u)/\D.ct σ' (upd H' d u)⟩ σ (upd H d (.frz od u))
section
theorem zl{t:TS}(h:PS X st t):PS X st (Hm t):=by
 intro pins s σ H D I hw;obtain⟨d,u,hd,mu,hw⟩:=hw;obtain⟨od,I1⟩:=I.lock hd mu;refine cO (h pins s σ _ _ I1 (hw od)) fun f s1 q=>?_;cases f with
 |next=>obtain⟨σ',H',I2,e,q⟩:=q;exact⟨σ',_,I2.unlock e (I.nofrz hd mu) mu,q⟩
 |brk=>obtain⟨σ',H',I2,e,q⟩:=q;exact⟨σ',_,I2.unlock e (I.nofrz hd mu) mu,q⟩
 |cont=>obtain⟨σ',H',I2,e,q⟩:=q;exact⟨σ',_,I2.unlock e (I.nofrz hd mu) mu,q⟩
 |ret v=>obtain⟨x,σ',H',I2,r,e,q⟩:=q;exact⟨x,σ',_,I2.unlock e (I.nofrz hd mu) mu,r,q⟩
theorem ot{σ:St}{R:It->Hp->Prop}{J:It}{tn:Nat->Heap->Prop}{tk:Nat}(I:Inv X pins σ H s)(o:Obj)(T:Turn X.prog X.w X.K tg J [s.heap.objs.size] s.heap.objs.size tn)(st:tn 0 (s.heap.push o))(q:R J H):IA X pins σ tg R (.ref s.heap.objs.size) {s with heap:=s.heap.push o,toks:=tk}:=by
 refine⟨s.heap.objs.size,[s.heap.objs.size],tn,J,H,rfl,I.kept fun b ob e=>JZ _ e,T,st,fun b hb=>?_,q⟩;have e:b=s.heap.objs.size:=by simpa using hb
 subst e;exact I.fpOk (JY _) (I.hok.fresh (JY _))
end
noncomputable def G3(lo c:Int)(n:Nat):It:=⟨fun i _=>i<n,fun i H x H'=>H'=H/\x = .int (lo+(i:Nat)*c),fun i _=>n<=i⟩
theorem vG{w:World}{K:Lq}(it:Addr)(lo c:Int)(n:Nat):Turn P w K tg (G3 lo c n) [it] it (fun i h=>IsRangeIter h it (lo+(i:Nat)*c) ((n:Int)-(i:Nat)) c) where
 mem:=by simp
 obj:=fun i h st b hb=>by
  have e:b=it:=by simpa using hb
  subst e;exact⟨_,st,fun v z=>nomatch z⟩
 keep:=fun i h h' st k=>k it (by simp) _ st
 item:=by
  intro X hP hw hK hc i pins s σ H E I hf st hg;subst hP hw hK;obtain⟨f0,f1,f2,f3,f4,f5⟩:=hf it (by simp);have W:=Walks.range (prog:=X.prog) (w:=X.w) (I.ok.hd hc) it lo c n;refine W.item i s _ _ hg st fun v h' tk hv st' kk=>?_;obtain⟨t,rfl⟩:=hv;have I1:Inv X pins σ H {s with heap:=h',toks:=tk}:=I.turned (fun b o hb e=>kk b o (by simpa using hb) e) f0 f1 f3 f4 f5;exact⟨_,rfl,o9 (s:={s with heap:=h',toks:=tk}) (n:="range_iterator") st' rfl rfl (by decide) ⟨.int (lo+(i:Nat)*c),H,I1,⟨t,rfl⟩,⟨rfl,rfl⟩,st',fun b hb=>(hf b hb).1⟩⟩
 done:=by
  intro X hP hw hK hc i pins s σ H E I hf st hg;subst hP hw hK;obtain⟨f0,f1,f2,f3,f4,f5⟩:=hf it (by simp);exact wpAny_pyNext_range_end (I.ok.hd hc) st (by have:n<=i:=hg;lia) fun h' eb=>⟨rfl,I.turned (t':=s.toks) (fun b o hb e=>eb b o hb e) f0 f1 f3 f4 f5⟩
 self:=fun A i s Q E st h=>wpAny_pyIter_rangeiter st h
noncomputable def Ij(i j c:Int)(n:Nat):Prop:=c≠0/\c.natAbs<1073741824/\Builtin.Range.small i j c=true/\Builtin.Range.rangeSize i j c=n
theorem Ij.neg{i j:Int}(ha : -(2^62)<=i)(ha':i<2^62)(hb : -(2^62)<=j)(hb':j<2^62):Ij i j (-1) (i-j).toNat :=
 ⟨by decide,by decide,PySem.W.small_down ha ha' hb hb',PySem.W.rangeSize_downNat i j⟩
noncomputable def FA(ta:TA):TI:=fun σ H R=>ta σ H fun vs H1=>∃(i j c:Int) (n:Nat),vs=[.int i,.int j,.int c]/\Ij i j c n/\R (G3 i c n) H1
section
theorem Ai{a b:Expr}{ta:TA}(hg:Gl X "range")(hm:X.mg "range"=none)(ha:PA X [a,b,c] ta)(hs:starEach [a,b,c] X.env=(false,eval a X.env)::starEach [b,c] X.env:=by rfl)(hpl:(backTo pos (starEach [b,c] X.env)).any (·.1)=false:=by rfl):
  PI X tg (.Call (.Name "range" p) [a,b,c] [] pos) (FA ta):=by
 intro pins s σ H R I h;refine Call_ (kW I hg hm boot_range (PyProof.Rows.callWith_type1 (cO (ha pos pins s σ H _ I h) fun us s1 ⟨vs,H1,I1,r1,q1⟩=>?_) hs hpl));obtain⟨i,j,k,n,e,⟨c0,c1,c2,c3⟩,q⟩:=q1;subst e;cases r1 with
 |cons r rr =>
  cases rr with
  |cons r' rr =>
   cases rr with
   |cons r'' rr =>
    cases rr;obtain⟨t,rfl⟩:=r;obtain⟨t',rfl⟩:=r';obtain⟨t'',rfl⟩:=r'';refine call_range_3 c0 ?_ (.inl (PyProof.noPylong_small c1));refine wpAny_pyIter_range (IsRange.new ..) c2 ?_;have I2:Inv X pins σ H1 {s1 with heap:=s1.heap.push {cls:=.type "range",data:=.fields #[.int i t,.int j t',.int k t'']}}:=I1.kept (t':=s1.toks) fun b o e=>JZ _ e;refine ot (tk:=s1.toks) I2 _ (vG _ i k n) ?_ q;have e1:i+((0:Nat):Int)*k=i:=by simp
    have e2:(n:Int)-((0:Nat):Int)=Builtin.Range.rangeSize i j k:=by rw[c3];simp
    show IsRangeIter _ _ (i+((0:Nat):Int)*k) ((n:Int)-((0:Nat):Int)) k;rw[e1,e2];exact J6 _ rfl
end
theorem yx{lo c:Int}{tb:TS}{σ:St}(Pv:Nat->St->Hp->Prop)(h0:Pv 0 σ H)(hs:∀i σ H,i<n->Pv i σ H->g (.int (lo+(i:Nat)*c)) σ H fun σ2 H2=>tb {D with nx:=Pv (i+1),ct:=Pv (i+1),bk:=D.nx} σ2 H2)(hd:∀σ H,Pv n σ H->D.nx σ H):
  ∃W:Nat->Nat->St->Hp->Prop,(∃m,W 0 m σ H)/\∀i m σ H,W i m σ H ->
   ((G3 lo c n).stop i H/\D.nx σ H)\/((G3 lo c n).go i H/\∃N:St->Hp->Prop,(∀σ' H',N σ' H'->∃m',m'<m/\W (i+1) m' σ' H')/\∀x H',(G3 lo c n).yld i H x H'->g x σ H' fun σ2 H2=>tb {D with nx:=N,ct:=N,bk:=D.nx} σ2 H2):=by
 refine⟨fun i m σ H=>m=n-i/\i<=n/\Pv i σ H,⟨n,by simp,Kq _,h0⟩,?_⟩;rintro i m σ H ⟨rfl,hi,p⟩;by_cases hlt:i<n
 .refine .inr ⟨hlt,Pv (i+1),fun σ' H' p'=>⟨n-(i+1),by lia,rfl,hlt,p'⟩,fun x H' y=>?_⟩;obtain⟨e,y⟩:=y;subst e y;exact hs i σ _ hlt p
 .have e:i=n:=by lia
  subst e;exact .inl ⟨JY _,hd σ H p⟩
noncomputable def IE(x:Str):It:=⟨fun i _=>i<x.cps.size,fun i H v H'=>H'=H/\∃c,x.cps[i]?=some c/\v = .str ⟨#[c]⟩,fun i _=>x.cps.size<=i⟩
theorem vF{w:World}{K:Lq}(it:Addr)(x:Str)(t:Tok)(ty:String)(hty:ty="str_ascii_iterator"\/ty="str_iterator"):
  Turn P w K tg (IE x) [it] it (fun i h=>h.IsStrIter it ty x t i) where
 mem:=by simp
 obj:=fun i h st b hb=>by
  have e:b=it:=by simpa using hb
  subst e;obtain⟨o,e,c,d⟩:=st;exact⟨o,e,fun v z=>by rw[d]at z;cases z⟩
 keep:=fun i h h' st k=>let ⟨o,ho,r⟩:=st;⟨o,k it (by simp) o ho,r⟩
 item:=by
  intro X hP hw hK hc i pins s σ H E I hf st hg;subst hP hw hK;obtain⟨f0,f1,f2,f3,f4,f5⟩:=hf it (by simp);have W:Walks X.prog X.w X.A it [it] [it] x.cps.size (SignAt x) (fun i h=>h.IsStrIter it ty x t i):=by
   rcases hty with e|e
   .rw[e];exact Walks.strAscii (I.ok.hd hc) it x t
   .rw[e];exact Walks.strWide (I.ok.hd hc) it x t
  have hno:["enumerate","zip","dict_itemiterator","dict_reverseitemiterator","odict_iterator","itertools.zip_longest","itertools.pairwise"].contains ty=false:=by
   rcases hty with e|e
   .rw[e];decide
   .rw[e];decide
  refine W.item i s _ _ hg st fun v h' tk hv st' kk=>?_;obtain⟨c,u,hcx,rfl⟩:=hv;have I1:Inv X pins σ H {s with heap:=h',toks:=tk}:=I.turned (fun b o hb e=>kk b o (by simpa using hb) e) f0 f1 f3 f4 f5;obtain⟨oi,e,cc,dd⟩:=id st';exact⟨_,rfl,o9 (s:={s with heap:=h',toks:=tk}) e cc dd hno ⟨.str ⟨#[c]⟩,H,I1,⟨u,rfl⟩,⟨rfl,c,hcx,rfl⟩,st',fun b hb=>(hf b hb).1⟩⟩
 done:=by
  intro X hP hw hK hc i pins s σ H E I hf st hg;subst hP hw hK;obtain⟨f0,f1,f2,f3,f4,f5⟩:=hf it (by simp);have hx:x.cps[i]?=none:=Array.getElem?_eq_none hg;rcases hty with e|e
  .rw[e]at st;exact wpAny_pyNext_ascii_end (I.ok.hd hc) st hx fun h' eb=>⟨rfl,I.turned (t':=s.toks) (fun b o hb e=>eb b o hb e) f0 f1 f3 f4 f5⟩
  .rw[e]at st;exact wpAny_pyNext_wide_end (I.ok.hd hc) st hx fun h' eb=>⟨rfl,I.turned (t':=s.toks) (fun b o hb e=>eb b o hb e) f0 f1 f3 f4 f5⟩
 self:=fun A i s Q E st h=>by
  rcases hty with e|e
  .rw[e]at st;exact wpAny_pyIter_striter_ascii st h
  .rw[e]at st;exact wpAny_pyIter_striter_wide st h
noncomputable def HR(te:TE):TI:=fun σ H R=>te σ H fun v H1=>∃x,v = .str x/\R (IE x) H1
theorem Gg(he:PE X e te):PI X tg e (HR te):=by
 intro pins s σ H R I h;refine cO (he pins s σ H _ I h) fun v s1 ⟨y,H1,I1,r1,x,ex,q⟩=>?_;subst ex;obtain⟨t,rfl⟩:=r1;cases ha:x.cps.all (· < 128)
 .exact wpAny_pyIter_wide ha (ot (tk:=s1.toks) I1 _ (vF _ x t "str_iterator" (.inr rfl)) ⟨_,J6 _ rfl,rfl,rfl⟩ q)
 .exact wpAny_pyIter_ascii ha (ot (tk:=s1.toks) I1 _ (vF _ x t "str_ascii_iterator" (.inl rfl)) ⟨_,J6 _ rfl,rfl,rfl⟩ q)
section
variable{prog:Program}{w:World}{A:Around}
theorem tj{d:Addr}(hd:(d==sysModules)=false)(ho:s.heap.get? d=some o)(hc:o.ExactDict)(hdat:o.data = .dict es ep)(hQ:Q (.ref s.heap.objs.size) {s with heap:=s.heap.push {cls:=.type "dict_keyiterator",data:=.fields #[.ref d,.int 0 0,.int es.size 0,.int ep 0]}}):
  wpAny (model prog w) A (pyIter (.ref d)) Q E s:=by
 have hT:s.TypeIs (.ref d) "dict":=⟨o,ho,hc.1⟩
 refine wpAny_pyIter_slot hT F.slot_dict_iter (wpAny_call_entry F.slot_dict_iter hT F.entry_dict_iter ?_ (F.args_dict_iter_1 _));unfold Builtin.«dict.__iter__»;refine JR ?_;unfold Builtin.Dict.dictSlotNone;refine JR (wpAny_notOrdered_dict hT ?_);show wpAny _ _ (pure (Value.ref d)) _ _ s;refine JV ?_;show wpAny _ _ (Builtin.Dict.showsAll d >>= _) _ _ s;unfold Builtin.Dict.showsAll;rw[JU (by rw[hd];exact J9)];refine JR (JV ?_);refine JR (wpAny_dictEntries ho hdat ?_);refine JR (wpAny_dictEpoch ho hdat ?_);refine JR (KM (JV ⟨_,rfl,"dict_keyiterator",_,⟨_,J6 _ rfl,rfl⟩,F.slot_dict_keyiterator_next.lookup,?_⟩));simpa [rawInt]using hQ
theorem sf{d:Addr}{Q:Option Value->Shared->Prop}(hit:s.heap.IsKeyIter it d i n ep)(hod:s.heap.get? d=some od)(hdd:od.data = .dict es ep)(hsz:es.size=n)(hx:es[i]?=some en)(hQ:∀h',h'.IsKeyIter it d (i+1) n ep->Heap.SameBut it s.heap h'->Q (some en.key) {s with heap:=h'}):wpAny (model prog w) A (pyNext (.ref it)) Q E s:=by
 obtain⟨o,ho,hc,hd⟩:=id hit;unfold pyNext;refine JR (wpAny_attempt (wpAny_callSpecial?_slot (name:=Str.ofString "__next__") hit.typeIs F.slot_dict_keyiterator_next
  (wpAny_call_entry F.slot_dict_keyiterator_next hit.typeIs F.entry_dict_keyiterator_next ?_ (F.args_dict_keyiterator_next_1 _))))
 refine JR (JV ?_);refine JR ?_;refine JR ?_;first|refine JR (wpAny_typeNameOfWhole_keyiter hit.typeIs (JV ?_))|refine JR (wpAny_typeNameOf_keyiter hit.typeIs (JV ?_))
 refine JR (wpAny_fieldsOf ho hd ?_);have hown:Builtin.Dict_items.ownsTuple "dict_keyiterator"=false:=by decide
 simp only[hown,KB,if_false];show wpAny _ _ (if (Value.ref d==Value.none)=true then _ else _) _ _ s;rw[JU (show ¬((Value.ref d==Value.none)=true) from J9)];refine JR (JV ?_);refine JR (wpAny_dictEntries hod hdd ?_);rw[JU (by rw[hsz];simp)];refine JR (JV ?_);refine JR (wpAny_dictEpoch hod hdd ?_);rw[JU (by simp)];refine JV ?_;obtain⟨hlt',hen⟩:=Kp.mp hx;simp only[show ¬((i:Int)<0) from by lia,if_false,Lj,Array.getElem?_eq_getElem hlt'];refine JR ?_;first|refine JR (wpAny_typeNameOfWhole_keyiter hit.typeIs (JV ?_))|refine JR (wpAny_typeNameOf_keyiter hit.typeIs (JV ?_))
 refine JR (wpAny_isOneOf_keyiter hit.typeIs ?_);show wpAny _ _ (setField (.ref it) 1 (rawInt ((i:Int)+1)) >>= _) _ _ s;refine JR (wpAny_setField ho hd (by simp) ?_);have hit':(s.heap.update it (Obj.mapFields (·.setIfInBounds 1 (rawInt ((i:Int)+1))))).IsKeyIter it d (i+1) n ep :=
  ⟨_,KA _ ho (Obj.isFreed_of_fields (KN hd _)),(Obj.cls_mapFields ..).trans hc,by rw[KN hd];simp[rawInt]⟩
 refine JR (KU ?_);refine JR (wpAny_isOneOf_keyiter (s:={s with heap:=s.heap.update it (Obj.mapFields (·.setIfInBounds 1 (rawInt ((i:Int)+1))))}) hit'.typeIs ?_);show wpAny _ _ (pure es[i].key) _ _ _;rw[hen];exact JV (JV ⟨_,rfl,JV (hQ _ hit' (Heap.SameBut.update ..))⟩)
theorem nr{d:Addr}{Q:Option Value->Shared->Prop}(hh:A.handled=none)(hit:s.heap.IsKeyIter it d i n ep)(hod:s.heap.get? d=some od)(hdd:od.data = .dict es ep)(hsz:es.size=n)(hge:n<=i)(hQ:∀h',Heap.ExtBut it s.heap h'->Q none {s with heap:=h'}):wpAny (model prog w) A (pyNext (.ref it)) Q E s:=by
 obtain⟨o,ho,hc,hd⟩:=id hit;unfold pyNext;refine JR (wpAny_attempt (wpAny_callSpecial?_slot (name:=Str.ofString "__next__") hit.typeIs F.slot_dict_keyiterator_next
  (wpAny_call_entry F.slot_dict_keyiterator_next hit.typeIs F.entry_dict_keyiterator_next ?_ (F.args_dict_keyiterator_next_1 _))))
 refine JR (JV ?_);refine JR ?_;refine JR ?_;first|refine JR (wpAny_typeNameOfWhole_keyiter hit.typeIs (JV ?_))|refine JR (wpAny_typeNameOf_keyiter hit.typeIs (JV ?_))
 refine JR (wpAny_fieldsOf ho hd ?_);have hown:Builtin.Dict_items.ownsTuple "dict_keyiterator"=false:=by decide
 simp only[hown,KB,if_false];show wpAny _ _ (if (Value.ref d==Value.none)=true then _ else _) _ _ s;rw[JU (show ¬((Value.ref d==Value.none)=true) from J9)];refine JR (JV ?_);refine JR (wpAny_dictEntries hod hdd ?_);rw[JU (by rw[hsz];simp)];refine JR (JV ?_);refine JR (wpAny_dictEpoch hod hdd ?_);rw[JU (by simp)];refine JV ?_;have hge':es.size<=i:=by rw[hsz];exact hge
 simp only[show ¬((i:Int)<0) from by lia,if_false,Lj,Array.getElem?_eq_none hge'];refine JR ?_;first|refine JR (wpAny_typeNameOfWhole_keyiter hit.typeIs (JV ?_))|refine JR (wpAny_typeNameOf_keyiter hit.typeIs (JV ?_))
 show wpAny _ _ (setField (.ref it) 0 .none >>= _) _ _ s;refine JR (wpAny_setField ho hd (by simp) ?_);show wpAny _ _ (newExc (.type "StopIteration") [] >>= _) _ _ _;refine JR ?_;simp only[newExc,newTuple];refine JR (KM ?_ (by size_fits));refine JR (m:=firstArgMember _ _) (wpAny_of_eq (a:=Value.none) (by first|rfl|(simp only[firstArgMember];rfl)) ?_);refine KM ?_ (by size_fits);simp only[raiseNew];refine JR (wpAny_handled ?_);rw[show A.in1.handled=none from hh];refine JR (JV (wpAny_throw ?_));refine JR (wpAny_isInstance (T:="StopIteration") (b:=true) ⟨_,J6 _ rfl,rfl⟩ isSubtype_stop ?_);exact JV (hQ _ (((Heap.SameBut.update ..).extBut.push _).push _))
end
theorem Gs{κ:Type}{kvs:List (κ×V)}{vs:List (κ×Value)}(h:KV kvs vs):∀{i:Nat} {k:κ} {v:V},kvs[i]?=some (k,v)->∃u,vs[i]?=some (k,u)/\RelV v u:=by
 unfold KV at h;induction h with
 |nil=>intro i k v e;simp at e
 |@cons a b l₁ l₂ r t ih =>
  intro i k v e;cases i with
  |zero =>
   simp only[Ld,Option.some.injEq]at e;subst e;refine⟨b.2,?_,r.2⟩;simp only[Ld];exact congrArg some (Prod.ext r.1.symm rfl)
  |succ j =>
   simp only[List.getElem?_cons_succ]at e ⊢;exact ih e
theorem qD{α β:Type}{G:α->β->Prop}{l₁:List α}{l₂:List β}(h:Paired G l₁ l₂):∀{i:Nat} {a:α},l₁[i]?=some a->∃b,l₂[i]?=some b/\G a b:=by
 induction h with
 |nil=>intro i a e;simp at e
 |@cons a b l₁ l₂ r t ih =>
  intro i a' e;cases i with
  |zero =>
   simp only[Ld,Option.some.injEq]at e;subst e;exact⟨b,rfl,r⟩
  |succ j =>
   simp only[List.getElem?_cons_succ]at e ⊢;exact ih e
theorem BJ{k:Key}(h:nB k u=true):RelV (kV k) u:=by
 rcases dQ h with⟨i,t,rfl,rfl⟩|⟨x,t,rfl,rfl⟩
 .exact⟨t,rfl⟩
 .exact⟨t,rfl⟩
section
variable{σ:St}{d:Addr}
theorem Inv.frzK{kvs:List (Key×V)}(I:Inv X pins σ H s)(h:H d=some (.frz o (.dK kvs))):
  (d==sysModules)=false/\s.heap.get? d=some o/\o.ExactDict/\∃(es:Array DictEntry) (ep:Nat) (vs:List (Key×Value)),o.data = .dict es ep/\es.size=kvs.length/\KV kvs vs/\s.heap.DictAt (gq X.prog X.w) d vs ep:=by
 obtain⟨hd,z,hs,vs,kv,o',es,ep,ho,hx,hdt,r⟩:=I.hok d _ h;rw[hd]at ho;cases ho;refine⟨hs,hd,hx,es,ep,vs,hdt,?_,kv,o,es,hd,hx,hdt,r⟩;have l1:=r.2.1.length;have l2:kvs.length=vs.length:=Paired.length kv;rw[Lr]at l1;lia
theorem Inv.frzT(I:Inv X pins σ H s)(h:H d=some (.frz o (.dT kvs))):
  (d==sysModules)=false/\s.heap.get? d=some o/\o.ExactDict/\∃(es:Array DictEntry) (ep:Nat),o.data = .dict es ep/\es.size=kvs.length /\
   ∀(i:Nat) (k:KD) (v:V),kvs[i]?=some (k,v)->∃(en:DictEntry) (q:Addr),es[i]?=some en/\en.key = .ref q/\vA H q k/\RelV v en.val:=by
 obtain⟨hd,z,hs,xs,pr,o',es,ep,ho,hx,hdt,he,_⟩:=I.hok d _ h;rw[hd]at ho;cases ho;refine⟨hs,hd,hx,es,ep,hdt,?_,fun i k v e=>?_⟩
 .have l1:es.size=xs.length:=size_of_entries he;have l2:kvs.length=xs.length:=Paired.length pr;lia
 .obtain⟨b,hb,e1,e2,e3⟩:=qD pr e;have q:=entry_at he i;rw[hb]at q;exact⟨_,b.2.1,q,rfl,e2,e3⟩
end
noncomputable def IF(d:Addr)(o:Obj)(kvs:List (Key×V)):It :=
 ⟨fun i H=>H d=some (.frz o (.dK kvs))/\i<kvs.length,fun i H x H'=>H'=H/\∃k v,kvs[i]?=some (k,v)/\x=kV k,fun i H=>H d=some (.frz o (.dK kvs))/\kvs.length<=i⟩
noncomputable def E2(d:Addr)(o:Obj)(kvs:List (KD×V)):It :=
 ⟨fun i H=>H d=some (.frz o (.dT kvs))/\i<kvs.length,fun i H x H'=>H'=H/\∃(k:KD) (v:V) (q:Addr),kvs[i]?=some (k,v)/\x = .ref q/\vA H q k,fun i H=>H d=some (.frz o (.dT kvs))/\kvs.length<=i⟩
theorem lN{es':Array DictEntry}{ep':Nat}(h:o.data = .dict es ep)(h':o.data = .dict es' ep'):es'=es/\ep'=ep:=by
 rw[h]at h';cases h';exact⟨rfl,rfl⟩
section
variable{w:World}{K:Lq}{d:Addr}
theorem z0{kvs:List (Key×V)}(it:Addr)(hod:o.data = .dict es ep):Turn P w K tg (IF d o kvs) [it] it (fun i h=>h.IsKeyIter it d i kvs.length ep) where
 mem:=by simp
 obj:=fun i h st b hb=>by
  have e:b=it:=by simpa using hb
  subst e;obtain⟨oi,e,c,dd⟩:=st;exact⟨oi,e,fun v z=>by rw[dd]at z;cases z⟩
 keep:=fun i h h' st k=>st.at fun oi e=>k it (by simp) oi e
 item:=by
  intro X hP hw hK hc i pins s σ H E I hf st hg;subst hP hw hK;obtain⟨hd,hi⟩:=hg;obtain⟨f0,f1,f2,f3,f4,f5⟩:=hf it (by simp);obtain⟨hs,hgd,hx,es',ep',vs,hdt,hsz,kv,hm⟩:=I.frzK hd;obtain⟨rfl,rfl⟩:=lN hod hdt;obtain⟨⟨k,v⟩,hkv⟩:∃p,kvs[i]?=some p:=⟨kvs[i],Ks hi⟩
  obtain⟨u,hu,ru⟩:=Gs kv hkv;have hl:kvs.length=vs.length:=Paired.length kv;rw[hl]at st;refine wpAny_pyNext_dict_item st hm hu fun key h' hkey st' sb=>?_;have I1:Inv X pins σ H {s with heap:=h'}:=I.turned (t':=s.toks) (fun b ob hb e=>(sb.2 b hb).trans e) f0 f1 f3 f4 f5;obtain⟨oi,e,c,dd⟩:=id st';refine⟨key,rfl,o9 (s:={s with heap:=h'}) e c dd (by decide) ⟨kV k,H,I1,BJ (show nB k key=true from hkey),⟨rfl,k,v,hkv,rfl⟩,?_,fun b hb=>(hf b hb).1⟩⟩;show h'.IsKeyIter it d (i+1) kvs.length _;rw[hl];exact st'
 done:=by
  intro X hP hw hK hc i pins s σ H E I hf st hg;subst hP hw hK;obtain⟨hd,hi⟩:=hg;obtain⟨f0,f1,f2,f3,f4,f5⟩:=hf it (by simp);obtain⟨hs,hgd,hx,es',ep',vs,hdt,hsz,kv,hm⟩:=I.frzK hd;obtain⟨rfl,rfl⟩:=lN hod hdt;exact nr (I.ok.hd hc) st hgd hdt hsz hi fun h' eb=>⟨rfl,I.turned (t':=s.toks) (fun b ob hb e=>eb b ob hb e) f0 f1 f3 f4 f5⟩
 self:=fun A i s Q E st h=>wpAny_pyIter_keyiter st h
theorem xN(it:Addr)(hod:o.data = .dict es ep):Turn P w K tg (E2 d o kvs) [it] it (fun i h=>h.IsKeyIter it d i kvs.length ep) where
 mem:=by simp
 obj:=fun i h st b hb=>by
  have e:b=it:=by simpa using hb
  subst e;obtain⟨oi,e,c,dd⟩:=st;exact⟨oi,e,fun v z=>by rw[dd]at z;cases z⟩
 keep:=fun i h h' st k=>st.at fun oi e=>k it (by simp) oi e
 item:=by
  intro X hP hw hK hc i pins s σ H E I hf st hg;subst hP hw hK;obtain⟨hd,hi⟩:=hg;obtain⟨f0,f1,f2,f3,f4,f5⟩:=hf it (by simp);obtain⟨hs,hgd,hx,es',ep',hdt,hsz,ent⟩:=I.frzT hd;obtain⟨rfl,rfl⟩:=lN hod hdt;obtain⟨⟨k,v⟩,hkv⟩:∃p,kvs[i]?=some p:=⟨kvs[i],Ks hi⟩
  obtain⟨en,q,hen,hkey,hq,_⟩:=ent i k v hkv;refine sf st hgd hdt hsz hen fun h' st' sb=>?_;have I1:Inv X pins σ H {s with heap:=h'}:=I.turned (t':=s.toks) (fun b ob hb e=>(sb.2 b hb).trans e) f0 f1 f3 f4 f5;obtain⟨oi,e,c,dd⟩:=id st';exact⟨en.key,rfl,o9 (s:={s with heap:=h'}) e c dd (by decide) ⟨.ref q,H,I1,hkey,⟨rfl,k,v,q,hkv,rfl,hq⟩,st',fun b hb=>(hf b hb).1⟩⟩
 done:=by
  intro X hP hw hK hc i pins s σ H E I hf st hg;subst hP hw hK;obtain⟨hd,hi⟩:=hg;obtain⟨f0,f1,f2,f3,f4,f5⟩:=hf it (by simp);obtain⟨hs,hgd,hx,es',ep',hdt,hsz,ent⟩:=I.frzT hd;obtain⟨rfl,rfl⟩:=lN hod hdt;exact nr (I.ok.hd hc) st hgd hdt hsz hi fun h' eb=>⟨rfl,I.turned (t':=s.toks) (fun b ob hb e=>eb b ob hb e) f0 f1 f3 f4 f5⟩
 self:=fun A i s Q E st h=>by
  refine wpAny_pyIter_slot st.typeIs F.slot_dict_keyiterator_iter (wpAny_call_entry F.slot_dict_keyiterator_iter st.typeIs F.entry_dict_keyiterator_iter ?_ (F.args_dict_keyiterator_iter_1 _));show wpAny _ _ (ret (.ref it)) _ _ s;exact JV ⟨_,rfl,"dict_keyiterator",_,st.typeIs,F.slot_dict_keyiterator_next.lookup,h⟩
end
noncomputable def FF(td:TE):TI:=fun σ H R=>td σ H fun x H1=>kh x fun d=>∃o,((∃kvs,H1 d=some (.frz o (.dK kvs))/\R (IF d o kvs) H1)\/∃kvs,H1 d=some (.frz o (.dT kvs))/\R (E2 d o kvs) H1)
section
theorem zm(he:PE X e td):PI X tg e (FF td):=by
 intro pins s σ H R I h;refine cO (he pins s σ H _ I h) fun u s1 ⟨x,H1,I1,rx,qr⟩=>?_;obtain⟨d,ex,o,q⟩:=fC qr;subst ex;obtain rfl:u=Value.ref d:=rx;rcases q with⟨kvs,hd,q⟩|⟨kvs,hd,q⟩
 .obtain⟨hs,hgd,hx,es,ep,vs,hdt,hsz,kv,hm⟩:=I1.frzK hd;refine tj hs hgd hx hdt (ot (tk:=s1.toks) I1 _ (z0 _ hdt) ⟨_,J6 _ rfl,rfl,?_⟩ q);rw[hsz]<;>rfl
 .obtain⟨hs,hgd,hx,es,ep,hdt,hsz,ent⟩:=I1.frzT hd;refine tj hs hgd hx hdt (ot (tk:=s1.toks) I1 _ (xN _ hdt) ⟨_,J6 _ rfl,rfl,?_⟩ q);rw[hsz]<;>rfl
end
end L2
section
namespace Bits
open PySem PyProof.Rows
theorem bitOr_pp{x y:Int}(hx:0<=x)(hy:0<=y):Builtin.bitOr x y=((x.toNat ||| y.toNat:Nat):Int):=by
 have e:=nat_or_add_and x.toNat y.toNat;rw[bitOr_and,bitAnd_pp hx hy];omega
end Bits
end
namespace L2
open PySem PySem.Spec PyProof.Rows
variable{h h' h2 B:Heap}{k t' i j n ep kk:Nat}{v u pm cdv oc vl vu cls:Value}{a b it C sl L ea:Addr}{x name m qual:Str}{y:V}{E Q Qf:Value->Shared->Prop}{s s':Shared}{xs ys:List V}{us its its' args bm sub:List Value}{H H' H1:Hp}{o od oe:Obj}{P:Program}{e c tg iter value elt:Expr}{X:Cx}{pins p0 pe:List (Addr×Obj)}{g':Array GenState}{d':Drawn}{ch fp:List Addr}{M:Model}{pos pos' p tpos apos p2 cpos np:Pos}{ta te to tv td:TE}{op:CmpOp}{st:Stmt}{es:Array DictEntry}{g:TG}{body:List Stmt}{R:Result->Shared->Prop}{lo hi:Option Int}{pl:Sem Bool}{wi:TI}{D:Ends}{f:Value->Value->Sem Value}{r:V->Option Int->Option Int->Hp->VK->Prop}{dx an dd:Option Addr}{mA mN:Str->Option Value}{kw:List (Str×Value)}{fd:FuncData}{ps sn:List Str}{CX:G6}{sp:Sp}{kindOf:Str->Option NameKind}{sc scope:Scope}{osl:Array (Option Value)}{T newId:String}{items:Array Value}{cells:List (Str×Addr)}{ifs elts:List Expr}{tt:TT}{Qd:Hp->Prop}{kvs:List (KD×V)}{en:DictEntry}{use:Option (Value->Sem Unit)}{Eo:XS}{col:Option Bool}{k0 k1 k2 k3 k5:Option Value}
noncomputable def inClass(s:Stmt)(j:Nat):Stmt:=match s with
 |.ClassDef _ _ _ body _ _ _ _ _ _ _=>body.getD j (.Pass ⟨0,0,0,0⟩)
 |_=> .Pass ⟨0,0,0,0⟩
noncomputable def gc(s:Stmt):Arguments:=match s with
 |.FunctionDef _ a _ _ _ _ _ _ _ _=>a
 |_=>{posonlyargs:=[],args:=[],vararg:=none,kwonlyargs:=[],kw_defaults:=[],kwarg:=none,defaults:=[]}
noncomputable def cI(s:Stmt):List Stmt:=match s with
 |.FunctionDef _ _ b _ _ _ _ _ _ _=>b
 |_=>[]
noncomputable def aE(s:Stmt):Scope:=match s with
 |.FunctionDef _ _ _ _ _ _ sc _ _ _=>sc
 |_=>{kind:=.function,names:=[],isGenerator:=false,isCoroutine:=false}
structure Do (K:Lq) (x qual:Str) (st:Stmt) (f:Addr) (fd:FuncData):Prop where
 ex:∃(oc:Value) (od:Option Addr) (kV doc pm:Value) (an:Option Addr) (cdv ct:Value) (osl:Array (Option Value)),
  fd=PySem.W.fnOf x qual (gc st) (cI st) (aE st) .none kV doc pm an cdv ct/\K.lookup f=some ⟨oc,od,.func fd,osl⟩/\PySem.W.codeIn K cdv qual=true
 kp:PySem.W.keepIn K (.ref f)=true
section
variable{w:World}{K:Lq}{mg:Str->Option Value}{base:Heap}
theorem Do.binds{f:Addr}(F:Do K x qual st f fd)(h:∀(kV doc pm:Value) (an:Option Addr) (cdv ct:Value) (us:List Value),us.length=ps.length->bindArgs (PySem.W.fnOf x qual (gc st) (cI st) (aE st) .none kV doc pm an cdv ct) ⟨us,[]⟩=pure (ps.zip us)):Binds K fd ps []:=by
 obtain⟨oc,od,kV,doc,pm,an,cdv,ct,osl,rfl,lk,hcd⟩:=F.ex;exact .all (h kV doc pm an cdv ct)
theorem kZ{f:Addr}{od:Option Addr}{kV doc ct:Value}(l:K.lookup f=some ⟨oc,od,.func (PySem.W.fnOf x qual (gc st) (cI st) (aE st) .none kV doc pm an cdv ct),osl⟩)(c:PySem.W.codeIn K cdv qual=true)(k:PySem.W.keepIn K (.ref f)=true):Do K x qual st f (PySem.W.fnOf x qual (gc st) (cI st) (aE st) .none kV doc pm an cdv ct):=⟨⟨oc,od,kV,doc,pm,an,cdv,ct,osl,rfl,l,c⟩,k⟩
end
theorem dZ{A:Around}(hr:fj k A):A.units+64<cLine:=hr.units
section
theorem pv(i:Nat)(hN:X.N[i]?=some x:=by rfl)(hv:Hc X.env.scope x:=by first|exact Or.inl rfl|exact Or.inr (Or.inl rfl)|exact Or.inr (Or.inr rfl))(hd:(x==("__debug__":Str))=false:=by decide)(hcd:(x==("__classdict__":Str))=false:=by decide):PE X (.Name x pos) (z8 i):=Gi hN hv hd hcd
end
class IP (c:Prop) (p:outParam Prop):Prop where
 iff:c↔p
instance IP.same {c:Prop}:IP c c:=⟨Iff.rfl⟩
instance IP.dec {c:Prop} [Decidable c]:IP (decide c=true) c:=⟨decide_eq_true_iff⟩
instance IP.not {b:Bool} {p:Prop} [h:IP (b=true) p]:IP ((!b)=true) (¬p):=⟨by
 rw[<-h.iff]
 cases b<;>simp⟩
theorem aS{c p A B:Prop}[Decidable c][k:IP c p](h1':p->A)(h2':¬p->B):if c then A else B:=by
 have h1:c->A:=fun z=>h1' (k.iff.mp z);have h2:¬c->B:=fun z=>h2' fun y=>z (k.iff.mpr y);by_cases h:c
 .rw[JX h];exact h1 h
 .rw[JU h];exact h2 h
noncomputable def ar(H H':Hp):Prop:=∀b o,H b=some o->H' b=some o
theorem jg.same(h:jg C m H a)(s:ar H H'):jg C m H' a:=let ⟨dx,fs,h,n⟩:=h;⟨dx,fs,s _ _ h,n⟩
theorem ar.refl(H:Hp):ar H H:=fun _ _ h=>h
theorem ar.trans{H2:Hp}(a:ar H H1)(b:ar H1 H2):ar H H2:=fun c o h=>b c o (a c o h)
theorem ar.free(e:ar H H'){l:Addr}(h:H' l=Option.none):H l=Option.none:=by
 cases q:H l with
 |none=>rfl
 |some o =>
  rw[e l o q]at h;cases h
theorem ar.seq{K:Lq}(e:ar H H')(h:aY K H a xs):aY K H' a xs:=by
 rcases h with(h|⟨o,h⟩)|h
 .exact .inl (.inl (e _ _ h))
 .exact .inl (.inr ⟨o,e _ _ h⟩)
 .exact .inr h
theorem at_of{z:Int}{v:V}(e:z=(j:Int))(h:xs[j]?=some v):xn xs z=some v:=by
 rw[e];exact bG h
theorem ar.made{x dx:Addr}(nx:H x=Option.none)(nd:H dx=Option.none)(k:∀b o,(upd (upd H dx (.own x)) x (.ins C dx [])) b=some o->b≠x->H1 b=some o):ar H H1:=fun b o e =>
 k b o (by rw[ai (aH e nx),ai (aH e nd)];exact e) (aH e nx)
end L2
namespace PySem
open Sem (wp)
theorem Obj.dict_mapFields(o:Obj)(f:Array Value->Array Value):(o.mapFields f).dict=o.dict:=by
 obtain⟨c,d,dt,sl⟩:=o;cases dt<;>rfl
inductive Heap.TrP (h base:Heap) (e:Addr) (cls:Value) (dx:Option Addr) (fl:Value):Prop
 |mk (oe:Obj) (vs:Array Value) (T:Addr) (oT:Obj) (ts:Array Value) (_:h.get? e=some oe) (_:oe.cls=cls/\oe.dict=dx/\(dx=none->vs[2]?=some .none)) (_:oe.data = .fields vs) (_:vs[1]?=some (.ref T)) (_:base.get? T=none) (_:T≠e) (_:h.get? T=some oT) (_:oT.data = .fields ts) (_:ts[3]?=some fl)
noncomputable def Heap.FlyP(base:Heap)(l:List Env)(e:Addr)(cls:Value)(dx:Option Addr)(h:Heap):Prop :=
 base.StaysIn h/\base.get? e=none/\h.FunFrames base l/\h.TrP base e cls dx .none
noncomputable def Heap.HeldP(base:Heap)(l:List Env)(e:Addr)(cls:Value)(dx:Option Addr)(L:Addr)(h:Heap):Prop :=
 base.StaysIn h/\base.get? e=none/\h.FunFrames base l/\h.TrP base e cls dx (rawInt L)
noncomputable def Heap.LeftP(base:Heap)(l:List Env)(e:Addr)(cls:Value)(dx:Option Addr)(fl:Value)(h h':Heap):Prop :=
 base.StaysIn h'/\h'.FunFrames base l/\h'.TrP base e cls dx fl/\h.UpToSlots h'
section
variable{M:Model}{A:Around}{E:Value->Shared->Prop}{s:Shared}
theorem jM{base:Heap}{env:Env}{outer:List Env}{L e:Addr}{oe:Obj}{vs:Array Value}{head:Value}{hadNext:Bool}{Q:Unit->Shared->Prop}(hfr:A.frames=some (env::outer))(hl:s.heap.FunFrames base (env::outer))(hf:env.frame=some L)(he:s.heap.get? e=some oe)(hkb:base.StaysIn s.heap)(hen:base.get? e=none)(hd:oe.data = .fields vs)(hsz:1<vs.size)(hcx:oe.dict=none->vs[2]?=some .none)(h:∀h',Heap.LeftP base (env::outer) e oe.cls oe.dict (rawInt L) s.heap h'->Q () {s with heap:=h'}):
  wpAny M A (do let a <-frameOf env;let pl <-entryPlaceOf L hadNext;let b <-EntryCells.newEntry head a .none (rawInt L) .none pl;setField (.ref e) 1 b) Q E s:=by
 have hene:e∉(env::outer).filterMap (·.frame):=fun hm=>by
  obtain⟨_,o,ho,hnf⟩:=hl.mem hm;rw[he]at ho;injection ho with ho;subst ho;exact hnf vs hd
 refine JR (wpAny_frameOf_fun hfr hl hf fun h₁ hs₁=>?_);refine JR (wpAny_entryPlaceOf fun pl hpl=>?_);unfold EntryCells.newEntry newFields;refine JR (KM ?_ (hpl.sizeOk5 _ _ _ _ _));have he₁:h₁.get? e=some oe:=(hs₁.2.1 e hene).trans he;have kb₁:base.StaysIn h₁:=fun b o hbo=>(hs₁.2.1 b fun hm=>by rw[(hl.mem hm).1]at hbo;cases hbo).trans (hkb b o hbo);have he₂:=JZ (h:=h₁) {cls:=.type "traceback",dict:=none,data:=.fields ([head,.ref L,.none,rawInt L,.none]++(if pl.isEmpty then List.replicate 6 Value.none else pl)).toArray} he₁;refine wpAny_setField he₂ hd hsz (h _ ?_);have hTe:h₁.objs.size≠e:=Nat.ne_of_gt (Kc he₁);have hd₃:=KN hd (·.setIfInBounds 1 (Value.ref h₁.objs.size));have he₃:=KA (Obj.mapFields (·.setIfInBounds 1 (Value.ref h₁.objs.size))) he₂ (Obj.isFreed_of_fields hd₃);have hT₃:=(KF (h₁.push {cls:=.type "traceback",dict:=none,data:=.fields ([head,.ref L,.none,rawInt L,.none]++(if pl.isEmpty then List.replicate 6 Value.none else pl)).toArray})
  (Obj.mapFields (·.setIfInBounds 1 (Value.ref h₁.objs.size))) (Ne.symm hTe)).trans (J6 h₁ rfl)
 have keep:∀b o,b≠e->h₁.get? b=some o ->
   ((h₁.push {cls:=.type "traceback",dict:=none,data:=.fields ([head,.ref L,.none,rawInt L,.none]++(if pl.isEmpty then List.replicate 6 Value.none else pl)).toArray}).update e (Obj.mapFields (·.setIfInBounds 1 (Value.ref h₁.objs.size)))).get? b=some o :=
  fun b o hbe hb=>by
   rw[KF _ _ (Ne.symm hbe)];exact JZ _ hb
 have noRecord:∀b o,s.heap.get? b=some o->(∀vs,o.data ≠ .fields vs)->b≠e:=fun b o hb hnf q=>by
  rw[q,he]at hb;injection hb with hb;subst hb;exact hnf vs hd
 refine⟨fun b o hbo=>keep b o (fun q=>by rw[q,hen]at hbo;cases hbo) (kb₁ b o hbo),hl.of_keeps fun b o hb hnf=>?_,?_,fun b o hb hnf=>?_⟩
 .obtain⟨sl,hs⟩:=hs₁.2.2 b o hb;exact⟨_,keep b _ (noRecord b o hb hnf) hs,rfl⟩
 .exact⟨_,_,h₁.objs.size,_,_,he₃,⟨Obj.cls_mapFields _ _,Obj.dict_mapFields _ _,fun z=>by rw[Array.getElem?_setIfInBounds_ne (by decide)];exact hcx z⟩,hd₃,by simp[hsz],kb₁.fresh,hTe,hT₃,rfl,by first|(simp;done)|(rcases hpl with rfl|⟨_,_,_,_,_,_,_,rfl⟩<;>simp)⟩
 .obtain⟨sl,hs⟩:=hs₁.2.2 b o hb;exact⟨sl,keep b _ (noRecord b o hb hnf) hs⟩
theorem gB{base:Heap}{l:List Env}{e:Addr}{cls:Value}{dx:Option Addr}{fl:Value}{Q:Unit->Shared->Prop}(hkb:base.StaysIn s.heap)(hl:s.heap.FunFrames base l)(ht:s.heap.TrP base e cls dx fl)(h:∀h',Heap.LeftP base l e cls dx .none s.heap h'->Q () {s with heap:=h'}):
  wpAny M A (setFlight (.ref e) none) Q E s:=by
 obtain⟨oe,vs,T,oT,ts,he,hcls,hd,h1,hnT,hTe,hT,hdT,h3⟩:=ht;have hsz3:3<ts.size:=(Kp.mp h3).1;have other:∀b,b≠T->(s.heap.update T (Obj.mapFields (·.setIfInBounds 3 ((none:Option Addr).elim Value.none fun f=>rawInt f)))).get? b=s.heap.get? b :=
  fun b hb=>KF _ _ (Ne.symm hb)
 have noRecord:∀b o,s.heap.get? b=some o->(∀vs,o.data ≠ .fields vs)->b≠T:=fun b o hb hnf q=>by
  rw[q,hT]at hb;injection hb with hb;subst hb;exact hnf ts hdT
 unfold setFlight;refine JR (KS he hd h1 ?_);rw[JX (show(Value.ref T != Value.none)=true from by simp)];refine wpAny_setField hT hdT hsz3 (h _ ⟨fun b o hbo=>(other b fun q=>by rw[q,hnT]at hbo;cases hbo).trans (hkb b o hbo),
  hl.of_keeps fun b o hb hnf=>⟨o,(other b (noRecord b o hb hnf)).trans hb,rfl⟩,?_,fun b o hb hnf=>⟨o.slots,(other b (noRecord b o hb hnf)).trans hb⟩⟩)
 exact⟨oe,vs,T,_,_,(other e (Ne.symm hTe)).trans he,hcls,hd,h1,hnT,hTe,KA _ hT (Obj.isFreed_of_fields (KN hdT _)),KN hdT _,by simp[hsz3]⟩
theorem tM{base:Heap}{env:Env}{outer:List Env}{L e:Addr}{cls:Value}{dx:Option Addr}{Q:Unit->Shared->Prop}(hfr:A.frames=some (env::outer))(hf:env.frame=some L)(hfl:Heap.FlyP base (env::outer) e cls dx s.heap)(hQ:∀h',Heap.HeldP base (env::outer) e cls dx L h'->s.heap.UpToSlots h'->Q () {s with heap:=h'}):wpAny M A (noteFrame (.ref e) env) Q E s:=by
 obtain⟨hkb,hen,hl,oe,vs,T,oT,ts,he,⟨hcls,hdx,hcx⟩,hd,h1,hnT,hTe,hT,hdT,h3⟩:=hfl;subst hcls hdx;unfold noteFrame;simp only[hf];refine JR (KS he hd h1 ?_);rw[JX (show(Value.ref T != Value.none)=true from by simp)];refine JR (KS hT hdT h3 ?_);rw[JU (show ¬((Value.none==rawInt L)=true) from by simp[rawInt])];refine JR (wpAny_setField hT hdT (Kp.mp h3).1 ?_);have other:∀b,b≠T->(s.heap.update T (Obj.mapFields (·.setIfInBounds 3 Value.none))).get? b=s.heap.get? b:=fun b hb=>KF _ _ (Ne.symm hb);have noRecord:∀b o,s.heap.get? b=some o->(∀vs,o.data ≠ .fields vs)->b≠T:=fun b o hb hnf q=>by
  rw[q,hT]at hb;injection hb with hb;subst hb;exact hnf ts hdT
 refine jM hfr (hl.of_keeps fun b o hb hnf=>⟨o,(other b (noRecord b o hb hnf)).trans hb,rfl⟩) hf ((other e (Ne.symm hTe)).trans he)
  (fun b o hbo=>(other b fun q=>by rw[q,hnT]at hbo;cases hbo).trans (hkb b o hbo)) hen hd (Kp.mp h1).1 hcx
  fun h' ⟨x1,x2,x3,x4⟩=>hQ h' ⟨x1,hen,x2,x3⟩ fun b o hb hnf=>x4 b o ((other b (noRecord b o hb hnf)).trans hb) hnf
theorem n6{base:Heap}{env:Env}{outer:List Env}{L e:Addr}{oe:Obj}{vs:Array Value}{Q:Unit->Shared->Prop}(hfr:A.frames=some (env::outer))(hl:s.heap.FunFrames base (env::outer))(hf:env.frame=some L)(he:s.heap.get? e=some oe)(hkb:base.StaysIn s.heap)(hen:base.get? e=none)(hd:oe.data = .fields vs)(h1:vs[1]?=some .none)(hcx:oe.dict=none->vs[2]?=some .none)(hQ:∀h',Heap.HeldP base (env::outer) e oe.cls oe.dict L h'->s.heap.UpToSlots h'->Q () {s with heap:=h'}):wpAny M A (noteFrame (.ref e) env) Q E s:=by
 unfold noteFrame;simp only[hf];refine JR (KS he hd h1 ?_);rw[JU (by decide)];exact jM hfr hl hf he hkb hen hd (Kp.mp h1).1 hcx fun h' ⟨x1,x2,x3,x4⟩=>hQ h' ⟨x1,hen,x2,x3⟩ x4
theorem ir{base:Heap}{l:List Env}{e L:Addr}{cls:Value}{dx:Option Addr}{Q:Unit->Shared->Prop}(hh:Heap.HeldP base l e cls dx L s.heap)(hQ:∀h',Heap.FlyP base l e cls dx h'->s.heap.UpToSlots h'->Q () {s with heap:=h'}):wpAny M A (setFlight (.ref e) none) Q E s:=by
 obtain⟨f1,f2,f3,f4⟩:=hh;exact gB f1 f3 f4 fun h' ⟨k1,k2,k3,k4⟩=>hQ h' ⟨k1,f2,k2,k3⟩ k4
theorem gf{base:Heap}{l:List Env}{e:Addr}{cls:Value}{dx:Option Addr}{Q:Unit->Shared->Prop}(hh:Heap.FlyP base l e cls dx s.heap)(hQ:∀h',Heap.FlyP base l e cls dx h'->s.heap.UpToSlots h'->Q () {s with heap:=h'}):wpAny M A (setFlight (.ref e) none) Q E s:=by
 obtain⟨f1,f2,f3,f4⟩:=hh;exact gB f1 f3 f4 fun h' ⟨k1,k2,k3,k4⟩=>hQ h' ⟨k1,f2,k2,k3⟩ k4
theorem Dv{base:Heap}{env:Env}{outer:List Env}{L e:Addr}{cls:Value}{dx:Option Addr}{Q:Unit->Shared->Prop}(hfr:A.frames=some (env::outer))(hf:env.frame=some L)(hfl:Heap.FlyP base (env::outer) e cls dx s.heap)(hQ:∀h',Heap.FlyP base outer e cls dx h'->s.heap.UpToSlots h'->Q () {s with heap:=h'}):wpAny M A (leaving env (.ref e)) Q E s:=by
 unfold leaving;refine JR (tM hfr hf hfl fun h1 hh u1=>?_);refine ir hh fun h2 ⟨k1,k2,⟨_,_,k3⟩,k4⟩ u2=>hQ h2 ⟨k1,k2,k3,k4⟩ (u1.trans u2)
noncomputable def Heap.FlAny(base:Heap)(l:List Env)(e:Addr)(cls:Value)(dx:Option Addr)(h:Heap):Prop :=
 base.StaysIn h/\base.get? e=none/\h.FunFrames base l/\((∃fl,h.TrP base e cls dx fl)\/∃oe vs,h.get? e=some oe/\oe.cls=cls/\oe.dict=dx/\oe.data = .fields vs/\vs[1]?=some .none/\(dx=none->vs[2]?=some .none))
theorem Heap.FlyP.any{base h:Heap}{l:List Env}{e:Addr}{cls:Value}{dx:Option Addr}(x:Heap.FlyP base l e cls dx h):Heap.FlAny base l e cls dx h:=⟨x.1,x.2.1,x.2.2.1,.inl ⟨_,x.2.2.2⟩⟩
theorem Heap.HeldP.any{base h:Heap}{l:List Env}{e L:Addr}{cls:Value}{dx:Option Addr}(x:Heap.HeldP base l e cls dx L h):Heap.FlAny base l e cls dx h:=⟨x.1,x.2.1,x.2.2.1,.inl ⟨_,x.2.2.2⟩⟩
theorem d5{base:Heap}{env env':Env}{outer:List Env}{L e:Addr}{cls:Value}{dx:Option Addr}{Q:Unit->Shared->Prop}(hfr:A.frames=some (env::outer))(hf:env.frame=some L)(hf':env'.frame=some L)(hfl:Heap.FlAny base (env::outer) e cls dx s.heap)(hQ:∀h',Heap.HeldP base (env::outer) e cls dx L h'->s.heap.UpToSlots h'->Q () {s with heap:=h'}):wpAny M A (noteFrame (.ref e) env') Q E s:=by
 have same:noteFrame (.ref e) env'=noteFrame (.ref e) env:=by
  unfold noteFrame frameOf;rw[hf,hf']
 rw[same];obtain⟨hkb,hen,hl,hcase⟩:=hfl;rcases hcase with⟨fl,oe,vs,T,oT,ts,he,⟨hcls,hdx,hcx⟩,hd,h1,hnT,hTe,hT,hdT,h3⟩|⟨oe,vs,he,rfl,rfl,hd,h1,hcx⟩
 .by_cases hfe:fl=rawInt L
  .subst hfe;unfold noteFrame;simp only[hf];refine JR (KS he hd h1 ?_);rw[JX (show(Value.ref T != Value.none)=true from by simp)];refine JR (KS hT hdT h3 ?_);rw[JX (show(rawInt L==rawInt L)=true from by simp)];exact JV (hQ _ ⟨hkb,hen,hl,oe,vs,T,oT,ts,he,⟨hcls,hdx,hcx⟩,hd,h1,hnT,hTe,hT,hdT,h3⟩ (.refl _))
  .subst hcls hdx;unfold noteFrame;simp only[hf];refine JR (KS he hd h1 ?_);rw[JX (show(Value.ref T != Value.none)=true from by simp)];refine JR (KS hT hdT h3 ?_);rw[JU (show ¬((fl==rawInt L)=true) from by simpa using hfe)];refine JR (wpAny_setField hT hdT (Kp.mp h3).1 ?_);have other:∀b,b≠T->(s.heap.update T (Obj.mapFields (·.setIfInBounds 3 Value.none))).get? b=s.heap.get? b:=fun b hb=>KF _ _ (Ne.symm hb);have noRecord:∀b o,s.heap.get? b=some o->(∀vs,o.data ≠ .fields vs)->b≠T:=fun b o hb hnf q=>by
    rw[q,hT]at hb;injection hb with hb;subst hb;exact hnf ts hdT
   refine jM hfr (hl.of_keeps fun b o hb hnf=>⟨o,(other b (noRecord b o hb hnf)).trans hb,rfl⟩) hf ((other e (Ne.symm hTe)).trans he)
    (fun b o hbo=>(other b fun q=>by rw[q,hnT]at hbo;cases hbo).trans (hkb b o hbo)) hen hd (Kp.mp h1).1 hcx
    fun h' ⟨x1,x2,x3,x4⟩=>hQ h' ⟨x1,hen,x2,x3⟩ fun b o hb hnf=>x4 b o ((other b (noRecord b o hb hnf)).trans hb) hnf
 .exact n6 hfr hl hf he hkb hen hd h1 hcx hQ
theorem n8{base:Heap}{env:Env}{outer:List Env}{L e:Addr}{cls:Value}{dx:Option Addr}{Q:Unit->Shared->Prop}(hfr:A.frames=some (env::outer))(hf:env.frame=some L)(hfl:Heap.FlAny base (env::outer) e cls dx s.heap)(hQ:∀h',Heap.FlyP base outer e cls dx h'->s.heap.UpToSlots h'->Q () {s with heap:=h'}):wpAny M A (leaving env (.ref e)) Q E s:=by
 unfold leaving;refine JR (d5 hfr hf hf hfl fun h1 hh u1=>?_);refine ir hh fun h2 ⟨k1,k2,⟨_,_,k3⟩,k4⟩ u2=>hQ h2 ⟨k1,k2,k3,k4⟩ (u1.trans u2)
theorem rR{α:Type}{what:String}{base:Heap}{l:List Env}{e:Addr}{env:Env}{cls:Value}{dx:Option Addr}{fl:Value}{Q:α->Shared->Prop}(hkb:base.StaysIn s.heap)(hen:base.get? e=none)(hl:s.heap.FunFrames base l)(ht:s.heap.TrP base e cls dx fl)(h:∀h',Heap.FlAny base l e cls dx h'->s.heap.UpToSlots h'->E (.ref e) {s with heap:=h'}):wpAny M A (passOn what (.ref e) env) Q E s:=by
 obtain⟨oe,vs,T,oT,ts,he,hcls,hd,h1,hnT,hTe,hT,hdT,h3⟩:=ht;have hsz3:3<ts.size:=(Kp.mp h3).1;unfold passOn;refine JR (KS he hd h1 ?_);rw[JU (show ¬((Value.ref T==Value.none)=true) from by simp)];have other:∀v b,b≠T->(s.heap.update T (Obj.mapFields (·.setIfInBounds 3 v))).get? b=s.heap.get? b :=
  fun v b hb=>KF _ _ (Ne.symm hb)
 have noRecord:∀b o,s.heap.get? b=some o->(∀vs,o.data ≠ .fields vs)->b≠T:=fun b o hb hnf q=>by
  rw[q,hT]at hb;injection hb with hb;subst hb;exact hnf ts hdT
 have fin:wpAny M A (setFlight (.ref e) env.frame) (fun _ s'=>wpAny M A (throw (.ref e)) Q E s') E s:=by
  unfold setFlight;refine JR (KS he hd h1 ?_);rw[JX (show(Value.ref T != Value.none)=true from by simp)];refine wpAny_setField hT hdT hsz3 (wpAny_throw (h _ ⟨fun b o hbo=>(other _ b fun q=>by rw[q,hnT]at hbo;cases hbo).trans (hkb b o hbo),hen,
   hl.of_keeps fun b o hb hnf=>⟨o,(other _ b (noRecord b o hb hnf)).trans hb,rfl⟩,.inl ⟨env.frame.elim Value.none fun f=>rawInt f,?_⟩⟩ fun b o hb hnf=>⟨o.slots,(other _ b (noRecord b o hb hnf)).trans hb⟩))
  exact⟨oe,vs,T,_,_,(other _ e (Ne.symm hTe)).trans he,hcls,hd,h1,hnT,hTe,KA _ hT (Obj.isFreed_of_fields (KN hdT _)),KN hdT _,by simp[hsz3]⟩
 first
  |exact JR fin
  |exact JR (JV (JR fin))
end
end PySem
namespace L2
open PySem PySem.Spec PyProof.Rows
variable{h h' h2 B:Heap}{k t' i j n ep kk:Nat}{v u pm cdv oc vl vu cls:Value}{a b it C sl L ea:Addr}{x name m qual:Str}{y:V}{E Q Qf:Value->Shared->Prop}{s s':Shared}{xs ys:List V}{us its its' args bm sub:List Value}{H H' H1:Hp}{o od oe:Obj}{P:Program}{e c tg iter value elt:Expr}{X:Cx}{pins p0 pe:List (Addr×Obj)}{g':Array GenState}{d':Drawn}{ch fp:List Addr}{M:Model}{pos pos' p tpos apos p2 cpos np:Pos}{ta te to tv td:TE}{op:CmpOp}{st:Stmt}{es:Array DictEntry}{g:TG}{body:List Stmt}{R:Result->Shared->Prop}{lo hi:Option Int}{pl:Sem Bool}{wi:TI}{D:Ends}{f:Value->Value->Sem Value}{r:V->Option Int->Option Int->Hp->VK->Prop}{dx an dd:Option Addr}{mA mN:Str->Option Value}{kw:List (Str×Value)}{fd:FuncData}{ps sn:List Str}{CX:G6}{sp:Sp}{kindOf:Str->Option NameKind}{sc scope:Scope}{osl:Array (Option Value)}{T newId:String}{items:Array Value}{cells:List (Str×Addr)}{ifs elts:List Expr}{tt:TT}{Qd:Hp->Prop}{kvs:List (KD×V)}{en:DictEntry}{use:Option (Value->Sem Unit)}{Eo:XS}{col:Option Bool}{k0 k1 k2 k3 k5:Option Value}
structure zV (P:Program) (w:World) (l:List Env) (ch:List Addr) (H:Hp) (s:Shared) (ea:Addr) (cls:Value) (dx:Option Addr) (H':Hp) (B:Heap) (s':Shared):Prop where
 os:s'.os=s.os
 bare:AllBare s'.gens
 un:Un (g6 l) ch H H' s.heap s'.heap
 hok:lB P w H' s'.heap
 fl:Heap.FlAny B l ea cls dx s'.heap
 cov:∀b o,s'.heap.get? b=some o->b∉g6 l->(H' b≠none\/(b∉ch/\∃o0,s.heap.get? b=some o0))->B.get? b=some o
 frl:∀b∈g6 l,H' b=none
noncomputable def tJ(P:Program)(w:World):G6:=fun outer H s E e s'=>∃(ea:Addr) (cls:Value) (dx:Option Addr) (H':Hp) (B:Heap),e = .ref ea/\zV P w outer [] H s ea cls dx H' B s'/\E cls dx H'
noncomputable def Acc(X:Cx)(E:XS):Prop:=∀(pins:List (Addr×Obj)) (σ:St) (H:Hp) (s:Shared) (ch:List Addr),Inv X pins σ H s->(∀b∈ch,(b∈X.ex\/X.s_0.heap.objs.size<=b)/\b≠X.env.locals/\∀p∈X.pn++pins,p.1≠b) ->
 ∀(ea:Addr) (cls:Value) (dx:Option Addr) (H':Hp) (B:Heap) (s':Shared),zV X.prog X.w X.stack ch H s ea cls dx H' B s'->E σ cls dx H'->X.xe (.ref ea) s'
theorem lB.there{w:World}(x:lB P w H h){o:HO}(e:H a=some o):∃ob,h.get? a=some ob:=by
 have q:=x a o e;clear e x;induction o with
 |lst xs=>obtain⟨_,_,_,_,e⟩:=q;exact⟨_,e⟩
 |tup xs=>obtain⟨_,_,_,o,e,_⟩:=q;exact⟨o,e⟩
 |dK kvs=>obtain⟨_,_,_,_,o,_,_,e,_⟩:=q;exact⟨o,e⟩
 |dT kvs=>obtain⟨_,_,_,_,o,_,_,e,_⟩:=q;exact⟨o,e⟩
 |set S n=>obtain⟨o,_,_,_,e,_⟩:=q;exact⟨o,e⟩
 |ins C dx fs=>obtain⟨_,_,_,e,_⟩:=q;exact⟨_,e⟩
 |own y=>exact q
 |xd fs=>obtain⟨_,⟨o,_,_,e,_⟩,_⟩:=q;exact⟨o,e⟩
 |rng lo hi=>obtain⟨_,_,_,e⟩:=q;exact⟨_,e⟩
 |frz ob u ih=>exact⟨_,q.1⟩
 |tbl ps=>exact⟨_,q⟩
 |met f y=>exact⟨_,q⟩
 |ext φ=>exact q.2.1
section
variable{w:World}{l:List Env}
theorem zV.hok2(x:zV P w l ch H s ea cls dx H' B s')(st:B.StaysIn h2):lB P w H' h2:=fun a o e=>by
 have stay:∀b u,H' b≠none->s'.heap.get? b=some u->h2.get? b=some u:=fun b u n q =>
  st b u (x.cov b u q (fun z=>n (x.frl b z)) (.inl n))
 refine(x.hok a o e).stay (fun b u hb q=>stay b u ?_ q) (fun _ q=>q) (fun _ _ q=>q) fun _ _ _ q=>q;rcases hb with rfl|hb
 .rw[e];simp
 .rw[hb];simp
theorem zV.un2(x:zV P w l ch H s ea cls dx H' B s')(st:B.StaysIn h2)(up:s'.heap.UpToSlots h2):Un (g6 l) ch H H' s.heap h2 where
 keep:=fun b o e n hb hx=>st b o (x.cov b o (x.un.keep b o e n hb hx) hb (.inr ⟨hx,o,e⟩))
 slot:=fun b o e n hb hx=>by
  obtain⟨sl,e1⟩:=x.un.slot b o e n hb hx;obtain⟨_,o',e2,hd⟩:=x.fl.2.2.1.mem hb;rw[e1]at e2;cases e2;obtain⟨sl',e3⟩:=up b _ e1 hd;exact⟨sl',e3⟩
 free:=x.un.free
 there:=fun b o e hx=>by
  obtain⟨o',e1⟩:=x.un.there b o e hx;by_cases hb:b∈g6 l
  .obtain⟨_,o2,e2,hd⟩:=x.fl.2.2.1.mem hb;obtain⟨sl',e3⟩:=up b _ e2 hd;exact⟨_,e3⟩
  .exact⟨o',st b o' (x.cov b o' e1 hb (.inr ⟨hx,o,e⟩))⟩
 tups:=x.un.tups
 frzs:=x.un.frzs
 tbls:=x.un.tbls
end
section
variable{w:World}{K:Lq}{mg:Str->Option Value}{base:Heap}{N:List Str}{f:Addr}{A:Around}{outer:List Env}{s0:Shared}{H0:Hp}{E:XK}
theorem aq:Acc (jq (tJ P w) P w K mg base N qual scope f cdv A outer s0 H0 E) (fun _=>E):=by
 intro pins σ H s ch I hch ea cls dx H' B s' x hE;have hx0:∀b o,s0.heap.get? b=some o->b∉ch:=fun b o e z=>by
  rcases(hch b z).1 with q|q
  .exact absurd (show b∈([]:List Addr) from q) (by simp)
  .exact absurd (Ki (Kc e) q) (KL _)
 have hL0:∀b o,s0.heap.get? b=some o->b≠s0.heap.objs.size:=fun b o e=>Kv (Kc e);have fst:g6 (jq (tJ P w) P w K mg base N qual scope f cdv A outer s0 H0 E).stack=s0.heap.objs.size::g6 outer:=rfl;have nfr:∀b o,s0.heap.get? b=some o->b∉g6 outer->b∉g6 (jq (tJ P w) P w K mg base N qual scope f cdv A outer s0 H0 E).stack:=fun b o e hb=>by
  rw[fst];intro z;rcases Kg.mp z with z|z
  .exact hL0 b o e z
  .exact hb z
 show wpAny (model P w) _ (leaving _ (.ref ea)) _ _ s';refine n8 (outer:=outer) I.ok.frames rfl x.fl fun h2 fly up=>?_;have st:=fly.1;have un2:=x.un2 st up;refine⟨ea,cls,dx,H',B,rfl,⟨x.os.trans I.os,x.bare,⟨fun b o e n hb _=>?_,fun b o e n hb _=>?_,fun b o e n _=>?_,fun b o e _=>?_,fun b xs e=>?_,fun b o u e=>?_,fun b ps e=>?_⟩,x.hok2 st,fly.any,fun b o e hb q=>?_,fun b hb=>x.frl b (by rw[fst];exact J0 _ hb)⟩,hE⟩
 .exact un2.keep b o (I.base.keep b o e n hb (by intro z;exact absurd (show b∈([]:List Addr) from z) (by simp))) (I.base.free b o e n (by intro z;exact absurd (show b∈([]:List Addr) from z) (by simp))) (nfr b o e hb) (hx0 b o e)
 .obtain⟨sl,e1⟩:=I.base.slot b o e n hb (by intro z;exact absurd (show b∈([]:List Addr) from z) (by simp));obtain⟨sl2,e2⟩:=un2.slot b _ e1 (I.base.free b o e n (by intro z;exact absurd (show b∈([]:List Addr) from z) (by simp))) (by rw[fst];exact J0 _ hb) (hx0 b o e);exact⟨sl2,e2⟩
 .obtain⟨o1,e1⟩:=I.base.there b o e (by intro z;exact absurd (show b∈([]:List Addr) from z) (by simp));exact un2.free b o1 e1 (I.base.free b o e n (by intro z;exact absurd (show b∈([]:List Addr) from z) (by simp))) (hx0 b o e)
 .obtain⟨o1,e1⟩:=I.base.there b o e (by intro z;exact absurd (show b∈([]:List Addr) from z) (by simp));exact un2.there b o1 e1 (hx0 b o e)
 .exact un2.tups b xs (I.base.tups b xs e)
 .exact un2.frzs b o u (I.base.frzs b o u e)
 .obtain⟨m1,e1⟩:=I.base.tbls b ps e;obtain⟨m2,e2⟩:=un2.tbls b _ e1;exact⟨m1++m2,by rw[e2,Array.append_assoc]⟩
 .have key:∃o1,s'.heap.get? b=some o1/\b∉g6 (jq (tJ P w) P w K mg base N qual scope f cdv A outer s0 H0 E).stack/\(H' b≠none\/(b∉ch/\∃o0,s.heap.get? b=some o0)):=by
   by_cases hn:H' b=none
   .obtain⟨_,o0,e0⟩:=q.resolve_left (fun z=>z hn);obtain⟨o1,e1⟩:=I.base.there b o0 e0 (by intro z;exact absurd (show b∈([]:List Addr) from z) (by simp));obtain⟨o2,e2⟩:=x.un.there b o1 e1 (hx0 b o0 e0);exact⟨o2,e2,nfr b o0 e0 hb,.inr ⟨hx0 b o0 e0,o1,e1⟩⟩
   .obtain⟨ho,eh⟩:=Option.ne_none_iff_exists'.mp hn;obtain⟨o1,e1⟩:=x.hok.there eh;exact⟨o1,e1,fun z=>hn (x.frl b z),.inl hn⟩
  obtain⟨o1,e1,n1,q1⟩:=key;have e2:=x.cov b o1 e1 n1 q1;have e3:=st b o1 e2;have e3:h2.get? b=some o1:=e3;rw[e3]at e;cases e;exact e2
theorem aA:PassesOwn (model P w) (jq (tJ P w) P w K mg base N qual scope f cdv A outer s0 H0 E).A (jq (tJ P w) P w K mg base N qual scope f cdv A outer s0 H0 E).env (jq (tJ P w) P w K mg base N qual scope f cdv A outer s0 H0 E).xe:=by
 intro e s' h;exact wpAny_leaving_again (SameStack.refl _) h
end
theorem Acc.passes{E:XS}(h:Acc X E):lx (tJ X.prog X.w) X E:=fun pins σ H s e s' I hq=>by
 obtain⟨ea,cls,dx,H',B,rfl,x,hE⟩:=hq;exact h pins σ H s [] I (by simp) _ _ _ _ _ _ x hE
theorem Do.okx{w:World}{K:Lq}{mg:Str->Option Value}{base:Heap}{f:Addr}{N:List Str}(F:Do K x qual st f fd)(S:fR N ps (aE st))(len:∀vs H Q E,sp vs H Q E->vs.length=ps.length)(hbody:∀(cdv:Value) (A:Around) (outer:List Env) (s:Shared) (H:Hp) (vs:List V) (Q:VK) (E:XK),fj k (A.deeper (envOfC qual (aE st) s.heap.objs.size f cdv))->sp vs H Q E ->
   ∃t,sI (jq (tJ P w) P w K mg base N qual (aE st) f cdv A outer s H E) (cI st) t/\t {nx:=fun _ H'=>Q .non H',rt:=Q} (start N vs) H):pV P w K mg base (tJ P w) (k+1) f fd ps sp:=by
 obtain⟨oc,od,kV,doc,pm,an,cdv,ct,osl,rfl,lk,hcd⟩:=F.ex;exact Ia lk hcd S len fun A outer s H vs Q E hr hsp=>hbody cdv A outer s H vs Q E hr hsp
noncomputable def A0:List Value:=[.type "Exception",.type "BaseException",.type "object"]
inductive iY (h:Heap) (C:Addr) (init:Option Value):Prop
 |mk (N nm q bs hdct sn sub ab col dd k0 k1 k2 k3 k5 mN:_) (_:h.get? C=some (excClassObj nm q C N bs A0 hdct sn sub ab col dd k0 k1 k2 k3 k5 "Exception.__new__")) (_:h.Ns N mN) (_:mN "__init__"=init)
theorem iY.keeps{init:Option Value}(x:iY h C init)(k:∀b o,h.get? b=some o->h'.get? b=some o):iY h' C init:=by
 obtain⟨N,nm,q,bs,hdct,sn,sub,ab,col,dd,k0,k1,k2,k3,k5,mN,hC,hN,hi⟩:=x;exact⟨N,nm,q,bs,hdct,sn,sub,ab,col,dd,k0,k1,k2,k3,k5,mN,k _ _ hC,hN.keeps k,hi⟩
theorem Acc.made{E:XS}(h:Acc X E){σ:St}{e:Addr}{tk:Nat}(I:Inv X pins σ H s)(m:Heap.MadeExcOf s.heap h' e cls args)(hE:E σ cls none H):
  X.xe (.ref e) {s with heap:=h',toks:=tk}:=by
 obtain⟨t,ht,htn,htt⟩:=m.there;have free:∀b∈g6 X.stack,H b=none:=I.stkFree;let B:Heap:=PySem.W.hideAll s.heap (g6 X.stack);have hB:∀b o,B.get? b=some o->s.heap.get? b=some o:=fun b o q=>PySem.W.of_hideAll _ q;have HB:∀b o,s.heap.get? b=some o->b∉g6 X.stack->B.get? b=some o:=fun b o q n=>PySem.W.hideAll_get _ q n;refine h pins σ H s [] I (by simp) e cls none H B _ ⟨rfl,I.bare,Un.kept m.keeps,I.hok.kept m.keeps,⟨fun b o q=>m.keeps b o (hB b o q),?_,?_,.inr ⟨_,_,ht,rfl,rfl,rfl,rfl,fun _=>rfl⟩⟩,fun b o q n c=>?_,free⟩ hE
 .cases q:B.get? e with
  |none=>rfl
  |some o=>have:=hB e o q;rw[m.new]at this;cases this
 .have fr:=I.stack;have up:∀(l:List Env),(∀b∈g6 l,b∈g6 X.stack)->s.heap.FunFrames X.base l->h'.FunFrames B l:=by
   intro l;induction l with
   |nil=>intro _ _;trivial
   |cons env r ih =>
    intro hs hl;obtain⟨hk,⟨L,o,hf,hn,ho,hd⟩,hr⟩:=hl;have hL:L∈g6 X.stack:=hs L (by unfold g6;rw[KC,hf];exact J8);exact⟨hk,⟨L,o,hf,Lp _ hL,m.keeps _ _ ho,hd⟩,ih (fun b hb=>hs b (by unfold g6;rw[KC,hf];exact J0 _ hb)) hr⟩
  exact up X.stack (fun _ hb=>hb) fr
 .have q:h'.get? b=some o:=q;rcases c with c|⟨_,o0,c⟩
  .obtain⟨ho,eh⟩:=Option.ne_none_iff_exists'.mp c;obtain⟨o1,e1⟩:=I.hok.there eh;have:=m.keeps b o1 e1;rw[q]at this;cases this;exact HB b o e1 n
  .have:=m.keeps b o0 c;rw[q]at this;cases this;exact HB b o c n
noncomputable def xW(E:XS)(C:Addr):TS:=fun _ σ H=>E σ (.ref C) none H
theorem Ah{E:XS}(hA:Acc X E)(hc:X.calm=true)(hg:Gl X x)(hm:X.mg x=some (.ref C))(hx:iY X.base C none)(hd:(x==("__debug__":Str))=false:=by decide):
  PS X (.Raise (some (.Call (.Name x np) [] [] cpos)) none pos) (xW E C):=by
 intro pins s σ H D I h;obtain⟨N,nm,q,bs,hdct,sn,sub,ab,col,dd,k0,k1,k2,k3,k5,mN,hC,hN,hi⟩:=hx.keeps I.bk;refine wpAny_Raise_call_subT (C:=C) (nm:=nm) (q:=q) (N:=N) (bs:=bs) (bm:=A0) (hdct:=hdct) (sn:=sn) (sub:=sub) (ab:=ab) (col:=col) (dd:=dd) (k0:=k0) (k1:=k1) (k2:=k2) (k3:=k3) (k5:=k5)
  PySem.F.excBase_Exception (mN:=mN) PySem.F.excBase_Exception.hasBase (I.ok.hd hc) rfl hi (iH I hg hm ⟨rfl,?_⟩ hd)
 exact evalArgs_empty ⟨rfl,Kq _,hC,hN,.base,fun h' e m=>hA.made (tk:=s.toks) I m h⟩
end L2
namespace PySem
section
variable{prog:Program}{w:World}{K:Type} [DecidableEq K] {knd:HeapKind prog w K}{A:Around}{E:Value->Shared->Prop}{s:Shared}
theorem iZ{d a:Addr}{xs:List (K×Addr×Value)}{k:K}{dflt:Value}{Q:Value->Shared->Prop}(hu:knd.room A)(hkey:knd.is s.heap k a)(hm:s.heap.DictOfH knd d xs)(h1:∀p,atKey xs k=some p->Q p.2 {s with toks:=s.toks+knd.draws k})(h2:atKey xs k=none->∀h',h'.DictOfH knd d (storedH xs k a dflt)->Heap.SameBut d s.heap h'->Q dflt {s with heap:=h',toks:=s.toks+knd.draws k})(hsz:xs.length<=sizeLine):wpAny (model prog w) A (dictSetDefault d (.ref a) dflt) Q E s:=by
 obtain⟨o,es,ep,ho,hc,hd,he,his,hn⟩:=hm;unfold dictSetDefault;try with_reducible refine KU ?_
 refine JR (knd.pyHash hu hkey ?_);refine JR (wpAny_dictFind_heap (s:={s with toks:=s.toks+knd.draws k}) hu hkey ho hd he his hn ?_ ?_)
 .intro hno;have hnot:k∉xs.map (·.1):=not_mem_keys_of_get hno;refine JR (wpAny_rule (JR (wpAny_updateDictKeys (hz:=by have e:=size_of_entries he;lia) (s:={s with toks:=s.toks+knd.draws k}) ho hd (JV (h2 (atKey_none_of_get hno) _ ⟨_,_,ep+1,KA _ ho (Obj.isFreed_of_dict (Obj.data_mapDictKeys hd _)),
   hc.mapDictKeys _,Obj.data_mapDictKeys hd _,?_,?_,?_⟩ (Heap.SameBut.update ..))))))
  .rw[storedH_new (atKey_none_of_get hno)];simp[he,entryOfKey]
  .rw[storedH_new (atKey_none_of_get hno)];intro x hx;rcases Kj.mp hx with hx|hx
   .exact knd.keeps (his x hx) ho hd (Heap.SameBut.update ..)
   .simp only[List.mem_singleton]at hx;subst hx;exact knd.keeps hkey ho hd (Heap.SameBut.update ..)
  .rw[storedH_new (atKey_none_of_get hno)];rw[List.map_append,List.nodup_append];refine⟨hn,by simp,?_⟩;intro x hx y hy;simp only[J5,Lh,List.mem_singleton]at hy;subst hy;exact fun e=>hnot (e▸hx)
 .intro j p hj;refine JR (wpAny_dictEntries (s:={s with toks:=s.toks+knd.draws k}) ho hd ?_);rw[entry_at he j,hj];exact JR (wpAny_rule (JV (h1 p (atKey_of_get hn hj))))
theorem jY(knd:HeapKind prog w K)(d a:Addr)(hd:(d==sysModules)=false)(dflt:Value):
  MeetsIn prog w (Builtin.«dict.setdefault» ⟨[.ref d,.ref a,dflt],[]⟩) (fun A R s=>knd.room A.in1/\∃k xs,knd.is s.heap k a/\s.heap.DictOfH knd d xs/\xs.length<=sizeLine /\
   (∀p,atKey xs k=some p->R (.ok (.ret p.2)) {s with toks:=s.toks+knd.draws k}) /\
   (atKey xs k=none->∀h',h'.DictOfH knd d (storedH xs k a dflt)->Heap.SameBut d s.heap h'->R (.ok (.ret dflt)) {s with heap:=h',toks:=s.toks+knd.draws k})) :=
 .of_wp fun A R s ⟨hu,k,xs,hkey,hm,hz,h1,h2⟩=>by
  unfold Builtin.«dict.setdefault»;refine JR ?_;unfold Builtin.Dict.keyAndDefault;refine JR (wpAny_notOrdered_dict hm.typeIs ?_);show wpAny _ _ (pure (d,Value.ref a,some dflt)) _ _ s;refine JV ?_;show wpAny _ _ (if (d==sysModules)=true then _ else(dictSetDefault d (.ref a) dflt >>= _)) _ _ s;rw[JU (by rw[hd];exact J9)];exact JR (iZ hu hkey hm (fun p hp=>JV ⟨_,rfl,h1 p hp⟩) (fun hn h' hm' hs'=>JV ⟨dflt,rfl,h2 hn h' hm' hs'⟩) hz)
end
end PySem
namespace HT
open PySem PyProof.Rows
variable{prog:Program}{w:World}{A:Around}{E:Value->Shared->Prop}{s:Shared}
theorem lX{t sl:Addr}{items:Array Value}{vl vu:Value}{lo hi:Option Int}{Q:Value->Shared->Prop}(ht:IsTup s.heap t items)(hs:s.heap.IsSliceOf sl vl vu .none)(pl:IsPart vl lo)(pu:IsPart vu hi)(hw:fS items.size 0 lo=0/\fS items.size items.size hi=items.size)(h:Q (.ref t) s):wpAny (model prog w) A (getItem (.ref t) (.ref sl)) Q E s:=by
 obtain⟨os,hos,hcs,hds⟩:=id hs;have hTs:s.TypeIs (.ref sl) "slice":=⟨os,hos,hcs⟩
 unfold getItem;try with_reducible refine KU ?_
 first|refine JR (JV ?_)|skip
 refine JR (wpAny_sequenceKey ht.typeIs (by decide) ?_);refine JR (wpAny_callSpecial?_slot (name:=Str.ofString "__getitem__") ht.typeIs PyProof.Rows.slot_tuple_getitem
  (wpAny_call_entry PyProof.Rows.slot_tuple_getitem ht.typeIs entry_tuple_getitem ?_ (args_tuple_getitem _ _)))
 show wpAny _ _ (Builtin.Tuple.tupleItemsOf (.ref t) >>= _) _ _ s;refine JR (tupleItemsOf_ ht ?_);refine JR (wpAny_typeOf hTs ?_);rw[JX (by decide)];refine JR (ju hs pl pu ?_);show wpAny _ _ (if (((fS items.size 0 lo:Nat):Int)==0&&(1:Int)==1&&(fS items.size items.size hi-fS items.size 0 lo)==items.size)=true then _ else _) _ _ s;rw[JX (by rw[hw.1,hw.2];simp)];have ex:wpAny (model prog w) A.in1 (Builtin.Tuple.tupleIsExact (.ref t)) (fun b s'=>b=true/\s'=s) E s:=by
  unfold Builtin.Tuple.tupleIsExact;exact JR (wpAny_typeOf ht.typeIs (JV ⟨rfl,rfl⟩))
 refine JR (KR ex (fun b s' hb=>?_) fun _ _ z=>z);obtain⟨rfl,rfl⟩:=hb;rw[JX rfl];exact JR (wpAny_rule (JV ⟨_,rfl,JV h⟩))
end HT
namespace L2
open PySem PySem.Spec PyProof.Rows
variable{h h' h2 B:Heap}{k t' i j n ep kk:Nat}{v u pm cdv oc vl vu cls:Value}{a b it C sl L ea:Addr}{x name m qual:Str}{y:V}{E Q Qf:Value->Shared->Prop}{s s':Shared}{xs ys:List V}{us its its' args bm sub:List Value}{H H' H1:Hp}{o od oe:Obj}{P:Program}{e c tg iter value elt:Expr}{X:Cx}{pins p0 pe:List (Addr×Obj)}{g':Array GenState}{d':Drawn}{ch fp:List Addr}{M:Model}{pos pos' p tpos apos p2 cpos np:Pos}{ta te to tv td:TE}{op:CmpOp}{st:Stmt}{es:Array DictEntry}{g:TG}{body:List Stmt}{R:Result->Shared->Prop}{lo hi:Option Int}{pl:Sem Bool}{wi:TI}{D:Ends}{f:Value->Value->Sem Value}{r:V->Option Int->Option Int->Hp->VK->Prop}{dx an dd:Option Addr}{mA mN:Str->Option Value}{kw:List (Str×Value)}{fd:FuncData}{ps sn:List Str}{CX:G6}{sp:Sp}{kindOf:Str->Option NameKind}{sc scope:Scope}{osl:Array (Option Value)}{T newId:String}{items:Array Value}{cells:List (Str×Addr)}{ifs elts:List Expr}{tt:TT}{Qd:Hp->Prop}{kvs:List (KD×V)}{en:DictEntry}{use:Option (Value->Sem Unit)}{Eo:XS}{col:Option Bool}{k0 k1 k2 k3 k5:Option Value}
noncomputable def DY(K:Lq):V->Option Int->Option Int->Hp->VK->Prop:=fun x lo hi H Q=>∃a xs,x = .ref a/\gG K H a xs /\
 ((HT.fS xs.length 0 lo=0/\HT.fS xs.length xs.length hi=xs.length)->Q (.ref a) H)/\(¬(HT.fS xs.length 0 lo=0/\HT.fS xs.length xs.length hi=xs.length)->∀p,H p=none->Q (.ref p) (upd H p (.tup (fK xs lo hi))))
theorem fO:ER X (DY X.K):=by
 intro pins s σ H x v vl vu lo hi sl Q I rx hs pl pu h;obtain⟨a,xs,rfl,hx,h1,h2⟩:=h;by_cases hw:HT.fS xs.length 0 lo=0/\HT.fS xs.length xs.length hi=xs.length
 .cases rx;obtain⟨its,r,ht,hz⟩:=I.tuple hx;have hlen:its.toArray.size=xs.length:=by rw[Ke];exact r.length.symm
  refine⟨"tuple",_,PyProof.Rows.slot_tuple_getitem.lookup,ht.typeIs,?_⟩;exact HT.lX ht hs pl pu (by rw[hlen];exact hw) ⟨.ref a,H,I,rfl,h1 hw⟩
 .exact F4 pins s σ H _ v vl vu lo hi sl Q I rx hs pl pu ⟨a,xs,rfl,hx,hw,h2 hw⟩
noncomputable def qz(K:Lq):V->List V->Hp->VK->Prop:=fun x vs H Q=>∃l b xs zs,x = .ref l/\vs=[.ref b]/\H l=some (.lst xs)/\gG K H b zs/\xs.length+zs.length<=sizeLine/\Q .non (upd H l (.lst (xs++zs)))
open PySem.AutoSeq1 PySem.MeetsSeq in
theorem extend_tuple (l : Addr) (items : Array Value) (n : Nat) (b : Addr) (items2 : Array Value) (n2 : Nat) (dd : Option Addr) (sl : Array (Option Value)) (hs0 : ¬(!items.isEmpty && Builtin.List.listTooLong (items.size + items2.size)) = true) (hs1 : items.size ≤ sizeLine) (hs2 : items.size + items2.size ≤ sizeLine + 1) :
    Meets (Builtin.«list.extend» ⟨[.ref l, .ref b], []⟩) (fun _ R s => s.heap.get? l = some { cls := .type "list", dict := none, data := .seq items n, slots := #[] } ∧ s.heap.get? b = some { cls := .type "tuple", dict := dd, data := .seq items2 n2, slots := sl } ∧ R (.ok (.ret Value.none)) { s with heap := s.heap.update l (Obj.mapSeq fun x => x ++ items2), toks := s.toks }) :=
  .of_wp fun prog w A R s h => by
    obtain ⟨hp, g, d, tk, os⟩ := s; obtain ⟨hl, hb, h⟩ := h; have f1 := AutoSeq1.idx_int; have f2 := AutoSeq1.sub_tuple_tuple; have f3 := AutoSeq1.sub_list_list; have f4 := AutoSeq1.sub_tuple_list; have f5 := AutoSeq1.sub_list_tuple;
    have hz' : (items ++ items2).size ≤ sizeLine + 1 := by rw [Array.size_append]; exact hs2
    wp_walk using (wpAny_updateSeq hl rfl (hz := hs1) (_hz' := hz')), AutoSeq1.wpAny_loadPart' hl, AutoSeq1.wpAny_loadPart' hb; exact ⟨_, rfl, h⟩
theorem eu:Jp X "list.extend" (qz X.K):=by
 intro pins s σ H x vs v us Q I rx rv h;obtain⟨l,b,xs,zs,rfl,rfl,hH,hB,hz,q⟩:=h;cases rx;obtain⟨u,rfl,ru⟩:=rv.one;cases ru;obtain⟨z,its,n,r,hl,e⟩:=I.lstM hH;obtain⟨its2,r2,⟨⟨c2,dd,dt,sl⟩,e2,hc,n2,hd⟩,hz2⟩:=I.tuple hB;dsimp only at hc hd;subst hc hd;have hl2:=r2.length;have hsz:its.toArray.size+its2.toArray.size<=sizeLine:=by rw[Ke,Ke];lia
 have hlong:¬(!its.toArray.isEmpty&&Builtin.List.listTooLong (its.toArray.size+its2.toArray.size))=true:=by
  rw[qP hsz,Bool.and_false];exact J9
 refine call_meets F.slot_list_extend ⟨_,e,rfl⟩ F.entry_list_extend (F.args_list_extend_2 _ _)
  (extend_tuple l its.toArray n b its2.toArray n2 dd sl hlong (by rw[Ke];lia) (by lia)) ⟨e,e2,?_⟩
 refine⟨.non,_,I.lset (its':=its++its2) hH e (by simp) (r.append r2) ?_,rfl,q⟩;rw[JT];lia
noncomputable def BK(K:Lq):List V->Hp->VK->Prop:=fun vs H Q=>∃(a:Addr) (ns:List Int),vs=[V.ref a]/\gG K H a (ns.map V.int)/\Q (.int ns.sum) H
noncomputable def E4(H:Hp)(a:Addr)(y v:V)(Q:VK):Prop :=
 (∃kvs k,H a=some (.dK kvs)/\y=kV k/\kvs.length<sizeLine/\(∀x,d9 kvs k=some x->Q x H)/\(d9 kvs k=none->Q v (upd H a (.dK (putK kvs k v))))) \/
 ∃kvs k b,H a=some (.dT kvs)/\y = .ref b/\vA H b k/\kvs.length<sizeLine/\(∀x,d9 kvs k=some x->Q x H)/\(d9 kvs k=none->Q v (upd H a (.dT (putK kvs k v))))
theorem uW{σ:St}{v:V}{r:Value}{A:Around}{Q:VK}(hu:A.units+64<cLine)(I:Inv X pins σ H s)(g:E4 H a y v Q)(ry:RelV y u)(rv:RelV v r):
  wpAny (model X.prog X.w) A (call (.builtin "dict.setdefault") [.ref a,u,r]) (EP X pins σ Q) E s:=by
 rcases g with⟨kvs,k,e,ey,l,q1,q2⟩|⟨kvs,k,b,e,ey,eb,l,q1,q2⟩
 .subst ey;obtain⟨z,hd,vs,rel,dd⟩:=FJ I.hok e;have hz:vs.length<=sizeLine:=by rw[<-rel.length];exact z
  have hl:(putK kvs k v).length<=sizeLine:=by have:=hV kvs k v;lia
  have rk:=rel.val k;refine call_meetsIn PySem.F.slot_dict_setdefault dd.typeIs PySem.F.entry_dict_setdefault (PySem.F.args_dict_setdefault_3 _ _ _) (kt_meets_setdefault (gq X.prog X.w) a (qZ ry) hd r) ⟨vs,dd,hz,fun w' hw=>?_,fun hn h' dd' hs=>?_⟩
  .cases q:d9 kvs k with
   |none=>rw[q,hw]at rk;exact(show False from rk).elim
   |some x=>rw[q,hw]at rk;exact⟨x,H,I.tok _,rk,q1 x q⟩
  .have hn':d9 kvs k=none:=by
    cases q:d9 kvs k with
    |none=>rfl
    |some x=>rw[q,hn]at rk;exact(show False from rk).elim
   have he:∃q,h'.get? a=some q:=let ⟨q,_,_,hq,_⟩:=dd';⟨q,hq⟩;exact⟨v,_,nI I (by rw[e];exact True.intro) hs he (CV hl hd (rel.put k rv) dd'),rv,q2 hn'⟩
 .subst ey;cases (show u=Value.ref b from ry);obtain⟨z,hd,xs,rel,dd⟩:=CT I.hok e;have hz:xs.length<=sizeLine:=by rw[<-Paired.length rel];exact z
  have hl:(putK kvs k v).length<=sizeLine:=by have:=hV kvs k v;lia
  have rk:=rel.val k;refine call_meetsIn PySem.F.slot_dict_setdefault dd.typeIs PySem.F.entry_dict_setdefault (PySem.F.args_dict_setdefault_3 _ _ _) (jY (j2 X.prog X.w) a b hd r) ⟨lM hu,k,xs,kX I.hok eb,dd,hz,fun p hp=>?_,fun hn h' dd' hs=>?_⟩
  .rw[hp]at rk;cases q:d9 kvs k with
   |none=>rw[q]at rk;exact(show False from rk).elim
   |some x=>rw[q]at rk;exact⟨x,H,I.tok _,rk,q1 x q⟩
  .have hn':d9 kvs k=none:=by
    rw[hn]at rk;cases q:d9 kvs k with
    |none=>rfl
    |some x=>rw[q]at rk;exact(show False from rk).elim
   obtain⟨q,es,ep,hq,g2,g3,g4,_,g5⟩:=dd';refine⟨v,_,nI (ob:=.dT (putK kvs k v)) I (by rw[e];exact True.intro) hs ⟨q,hq⟩ ⟨hl,hd,_,(rel.put k eb rv).keeps (fun c ys ec=>by rw[ai (bH ec e (fun z=>nomatch z))];exact ec) (fun c ob ys ec=>by rw[ai (bH ec e (fun z=>nomatch z))];exact ec),q,es,ep,hq,g2,g3,g4,g5⟩,rv,q2 hn'⟩
noncomputable def Fj(td ty tx:TE):TE:=fun σ H Q=>td σ H fun x H1=>kh x fun a=>He H1 a/\ty σ H1 fun y H2=>tx σ H2 fun z H3=>E4 H3 a y z Q
theorem pY{o f:Expr}{ty tx:TE}(hu:X.A.units+64<cLine)(ho:PE X o td)(he:PE X e ty)(hf:PE X f tx)(m:M2 X o "setdefault" apos e f cpos):PE X (.Call (.Attribute o "setdefault" apos) [e,f] [] cpos) (Fj td ty tx):=by
 intro pins s σ H Q I h;refine wpAny_Call_method m.base m.few m.line PySem.F.plainAttrs_dict PySem.F.slot_dict_setdefault PySem.F.type_dict_setdefault (cO (ho pins s σ H _ I h) fun u s1 ⟨x,H1,I1,rx,qr⟩=>?_);obtain⟨a,ex,d,q1⟩:=fC qr;subst ex;obtain rfl:u=Value.ref a:=rx;obtain⟨t1,t2,_⟩:=Cs I1 d;refine⟨t1,t2,?_⟩;rw[m.trees];refine Calls.callWith_builtin rfl (Calls.evalArgs_plain (Calls.spliced_cons (cO (he pins s1 σ H1 _ I1 q1) fun iv s2 ⟨y,H2,I2,ry,q2⟩ =>
  Calls.spliced_cons (cO (hf pins s2 σ H2 _ I2 q2) fun fv s3 ⟨z,H3,I3,rz,g⟩=>Calls.spliced_nil ?_))))
 exact uW hu I3 g ry rz
theorem EH(hc:X.calm=true):iq X (.builtin "sum") (BK X.K):=by
 intro pins s σ H vs us Q I r h;obtain⟨a,ns,rfl,hs,q⟩:=h;obtain⟨its,rv,ht,_⟩:=I.tuple hs;rw[aU.ref1 r];have hi:=rv.ints;obtain⟨xs,e⟩:=hi.allInts.items;have hn:numsOf (intItems xs).toList=ns:=by rw[<-e];exact hi.numsOf
 rw[nums_intItems]at hn;rw[e]at ht;refine PySem.W.ktm_sumG (I.ok.hd hc) ht fun h' tk t' hk=>?_;rw[preSum_eq,List.take_of_length_le (by simp),hn];exact⟨.int _,H,I.kept hk,⟨_,rfl⟩,q⟩
noncomputable abbrev Cx.blkx(X:Cx)(s:Shared)(H:Hp)(scope:Scope)(cenv:Env)(fp:List Addr)(xe:Value->Shared->Prop):Cx:={X with s_0:=s,H_0:=H,env:=cenv,outer:=X.stack,ex:=fp,fn:=fun x=>scope.names.lookup x==some .cell,pn:=[],xe:=xe}
theorem mi{B':Heap}(hB:∀b,B.get? b=none->B'.get? b=none):∀{l:List Env},h.FunFrames B l->(∀b∈g6 l,∀o,h.get? b=some o->h'.get? b=some o)->h'.FunFrames B' l
 |[],_,_=>trivial
 |env::r,⟨hk,⟨L,o,hf,hn,ho,hd⟩,hr⟩,k=>⟨hk,⟨L,o,hf,hB _ hn,k L (by unfold g6;rw[KC,hf];exact J8) o ho,hd⟩,mi hB hr fun b hb=>k b (by unfold g6;rw[KC,hf];exact J0 _ hb)⟩
theorem EN{E:XK}{D:Addr}{σ:St}{H3:Hp}{s3:Shared}{ce:Env}(hA:Acc X (fun _=>E))(hst:X.stack=X.env::X.outer)(hfr:X.env.frame=some X.env.locals)(I3:Inv X pins σ H3 s3)(f3:∀b∈fp,mM X pins H3 b)(hce:ce.frame=X.env.frame)(hcl:ce.locals=s3.heap.objs.size):
  Acc (X.blkx s3 H3 scope ce fp (notedBy (model X.prog X.w) X.A ce fun e s'=>compPost (model X.prog X.w) X.A X.xe use Qf (.ref D) s3.heap.objs.size (.error e) s')) (fun _=>E):=by
 intro pins' σ' H s ch I5 hch ea cls dx H' B s' x hE;have x:zV X.prog X.w X.stack ch H s ea cls dx H' B s':=x;have hch:∀b∈ch,(b∈fp\/s3.heap.objs.size<=b)/\b≠ce.locals:=fun b hb=>⟨(hch b hb).1,(hch b hb).2.1⟩
 have base5:Un (g6 X.stack) fp H3 H s3.heap s.heap:=I5.base;have lt3:∀b∈g6 X.stack,b<s3.heap.objs.size:=fun b hb=>by
  obtain⟨_,o,ho,_⟩:=I3.stack.mem hb;exact Kc ho
 generalize hCd:s3.heap.objs.size=C at *;have nC:C∉g6 X.stack:=fun z=>KL _ (lt3 C z);have HC:H C=none:=by have z:H ce.locals=none:=I5.free;rw[hcl]at z;exact z
 obtain⟨m,hn,_⟩:=I5.loc;have hn:s.heap.Ns C m:=by have z:s.heap.Ns ce.locals m:=hn;rw[hcl]at z;exact z
 obtain⟨oC,es,ep,eC,dC,rC⟩:=hn;have cC:C∉ch:=fun z=>(hch C z).2 hcl.symm;have HC':H' C=none:=x.un.free C oC eC HC cC;have eC':s'.heap.get? C=some oC:=x.un.keep C oC eC HC nC cC;have bC:B.get? C=some oC:=x.cov C oC eC' nC (.inr ⟨cC,oC,eC⟩);have c3:∀b o,s3.heap.get? b=some o->b∉fp->b∉ch:=fun b o e hx z=>by
  rcases(hch b z).1 with q|q
  .exact hx q
  .have this:=Kc e;rw[hCd]at this;exact absurd (Ki this q) (KL _)
 have ne3:∀b o,s3.heap.get? b=some o->b≠C:=fun b o e z=>by have this:=Kc e;rw[hCd,z]at this;exact KL _ this
 have fl:Heap.FlAny B (X.env::X.outer) ea cls dx s'.heap:=by rw[<-hst];exact x.fl
 show wpAny (model X.prog X.w) X.A (noteFrame (.ref ea) ce) _ _ s';refine d5 (by rw[I3.ok.frames,hst]) hfr (hce.trans hfr) fl fun h2 held up=>?_;have held:Heap.HeldP B X.stack ea cls dx X.env.locals h2:=by rw[hst];exact held
 obtain⟨st2,en2,fr2,oe,vs,T,oT,ts,he,hcls,hd,h1,hnT,hTe,hT,hdT,h3t⟩:=held;refine⟨m,⟨oC,es,ep,st2 C oC bC,dC,rC⟩,fun h3 same cenv hcl2=>?_⟩;have eaC:ea≠C:=fun z=>by rw[z,bC]at en2;cases en2
 have TC:T≠C:=fun z=>by rw[z,bC]at hnT;cases hnT
 have bg:∀b o,(PySem.W.hideAll B [C]).get? b=some o->b≠C/\B.get? b=some o:=fun b o q=>by
  refine⟨fun z=>?_,PySem.W.of_hideAll _ q⟩;subst z;rw[Lp _ (by simp)]at q;cases q
 have gb:∀b o,b≠C->B.get? b=some o->(PySem.W.hideAll B [C]).get? b=some o:=fun b o n q=>PySem.W.hideAll_get _ q (by simpa using n);have nb:∀b,B.get? b=none->(PySem.W.hideAll B [C]).get? b=none:=fun b q=>by
  cases z:(PySem.W.hideAll B [C]).get? b with
  |none=>rfl
  |some o=>rw[(bg b o z).2]at q;cases q
 have s23:∀b o,b≠C->h2.get? b=some o->h3.get? b=some o:=fun b o n q=>(same.2 b n).trans q;refine rR (base:=PySem.W.hideAll B [C]) (l:=X.stack) (cls:=cls) (dx:=dx) (fl:=rawInt X.env.locals) (fun b o q=>s23 b o (bg b o q).1 (st2 b o (bg b o q).2)) (nb _ en2)
  (mi nb fr2 fun b hb o q=>s23 b o (fun z=>nC (z▸hb)) q) ⟨oe,vs,T,oT,ts,s23 _ _ eaC he,hcls,hd,h1,nb _ hnT,hTe,s23 _ _ TC hT,hdT,h3t⟩ fun h4 fl4 up4=>?_
 have st4:=fl4.1;have toB:∀b o,s'.heap.get? b=some o->b∉g6 X.stack->b≠C->(H' b≠none\/(b∉ch/\∃o0,s.heap.get? b=some o0))->(PySem.W.hideAll B [C]).get? b=some o:=fun b o e nf n q=>gb b o n (x.cov b o e nf q);have upAll:∀b o,b≠C->s'.heap.get? b=some o->(∀vs,o.data ≠ .fields vs)->∃sl,h4.get? b=some {o with slots:=sl}:=fun b o n e hd=>by
  obtain⟨sl,e1⟩:=up b o e hd;obtain⟨sl2,e2⟩:=up4 b _ (s23 b _ n e1) hd;exact⟨sl2,e2⟩
 refine hA pins σ H3 s3 fp I3 (fun b hb=>⟨(f3 b hb).2.2.2.1,(f3 b hb).2.1,(f3 b hb).2.2.2.2.2⟩) ea cls dx H' (PySem.W.hideAll B [C]) _ ⟨x.os.trans I5.os,x.bare,⟨fun b o e n hb hx=>?_,fun b o e n hb hx=>?_,fun b o e n hx=>?_,fun b o e hx=>?_,fun b xs e=>?_,fun b o u e=>?_,fun b ps e=>?_⟩,fun a o e=>?_,fl4,fun b o e hb q=>?_,x.frl⟩ hE
 .have e1:=base5.keep b o e n hb hx;exact st4 b o (toB b o (x.un.keep b o e1 (base5.free b o e n hx) hb (c3 b o e hx)) hb (ne3 b o e) (.inr ⟨c3 b o e hx,o,e1⟩))
 .obtain⟨sl,e1⟩:=base5.slot b o e n hb hx;obtain⟨sl2,e2⟩:=x.un.slot b _ e1 (base5.free b o e n hx) hb (c3 b o e hx);obtain⟨_,o',e3,hd'⟩:=x.fl.2.2.1.mem hb;rw[e2]at e3;cases e3;obtain⟨sl3,e4⟩:=upAll b _ (ne3 b o e) e2 hd';exact⟨sl3,e4⟩
 .obtain⟨o1,e1⟩:=base5.there b o e hx;exact x.un.free b o1 e1 (base5.free b o e n hx) (c3 b o e hx)
 .obtain⟨o1,e1⟩:=base5.there b o e hx;obtain⟨o2,e2⟩:=x.un.there b o1 e1 (c3 b o e hx);by_cases hb:b∈g6 X.stack
  .obtain⟨_,o',e3,hd'⟩:=x.fl.2.2.1.mem hb;obtain⟨sl3,e4⟩:=upAll b _ (ne3 b o e) e3 hd';exact⟨_,e4⟩
  .exact⟨o2,st4 b o2 (toB b o2 e2 hb (ne3 b o e) (.inr ⟨c3 b o e hx,o1,e1⟩))⟩
 .exact x.un.tups b xs (base5.tups b xs e)
 .exact x.un.frzs b o u (base5.frzs b o u e)
 .obtain⟨m1,e1⟩:=base5.tbls b ps e;obtain⟨m2,e2⟩:=x.un.tbls b _ e1;exact⟨m1++m2,by rw[e2,Array.append_assoc]⟩
 .have stay:∀b u,H' b≠none->s'.heap.get? b=some u->h4.get? b=some u:=fun b u n q =>
   st4 b u (toB b u q (fun z=>n (x.frl b z)) (fun z=>n (z▸HC')) (.inl n))
  refine(x.hok a o e).stay (fun b u hb q=>stay b u ?_ q) (fun _ q=>q) (fun _ _ q=>q) fun _ _ _ q=>q;rcases hb with rfl|hb
  .rw[e];simp
  .rw[hb];simp
 .have e:h4.get? b=some o:=e;have key:∃o1,s'.heap.get? b=some o1/\b≠C/\(H' b≠none\/(b∉ch/\∃o0,s.heap.get? b=some o0)):=by
   by_cases hn:H' b=none
   .obtain⟨hx,o0,e0⟩:=q.resolve_left (fun z=>z hn);obtain⟨o1,e1⟩:=base5.there b o0 e0 hx;obtain⟨o2,e2⟩:=x.un.there b o1 e1 (c3 b o0 e0 hx);exact⟨o2,e2,ne3 b o0 e0,.inr ⟨c3 b o0 e0 hx,o1,e1⟩⟩
   .obtain⟨ho,eh⟩:=Option.ne_none_iff_exists'.mp hn;obtain⟨o1,e1⟩:=x.hok.there eh;exact⟨o1,e1,(fun z=>hn (z▸HC')),.inl hn⟩
  obtain⟨o1,e1,n1,q1⟩:=key;have e2:=toB b o1 e1 hb n1 q1;have e3:=st4 b o1 e2;rw[e3]at e;cases e;exact e2
section
theorem wt{σ:St}{Q:VK}{own:List (Str×Nat)}{E:XK}(hA:Acc X (fun _=>E))(hst:X.stack=X.env::X.outer)(hfr:X.env.frame=some X.env.locals)(hc:X.calm=true)(hN:X.N.Nodup)(I:Inv X pins σ H s)(hi:PI X tg iter wi)(ok:xD X.N X.env.scope scope own)(hg:∀(s:Shared) (H:Hp) (C:Addr) (cl:List (Str×Addr)) (fp:List Addr) (xe:Value->Shared->Prop),Acc (X.blkx s H scope (compEnvC scope cl C X.env) fp xe) (fun _=>E)->PG (X.blkx s H scope (compEnvC scope cl C X.env) fp xe) tg g)(ht:∀(s:Shared) (H:Hp) (C:Addr) (cl:List (Str×Addr)) (fp:List Addr) (xe:Value->Shared->Prop),Acc (X.blkx s H scope (compEnvC scope cl C X.env) fp xe) (fun _=>E)->Ik (X.blkx s H scope (compEnvC scope cl C X.env) fp xe) ifs tt)(he:∀(s:Shared) (H:Hp) (C:Addr) (cl:List (Str×Addr)) (fp:List Addr) (xe:Value->Shared->Prop),Acc (X.blkx s H scope (compEnvC scope cl C X.env) fp xe) (fun _=>E)->PE (X.blkx s H scope (compEnvC scope cl C X.env) fp xe) elt te)(hs:∀x,foldedSetIterable iter X.env x=pure x)(h:Hn wi g tt te (own.map (·.2)) σ H Q)(hRR:∀D C s' m H',Inv X pins σ H' s'->Q (.ref D) H'->s'.heap.Ns C m->mM X pins H' C->compPost (model X.prog X.w) X.A X.xe use Qf (.ref D) C (.ok .next) s'):
  wpAny (model X.prog X.w) X.A (comprehension (.ListComp elt [⟨tg,iter,ifs,0⟩] scope pos) scope X.env pos' (newList []) false (eval iter X.env) use) Qf X.xe s:=by
 have hfree:∀y∈scope.names,y.2 = .free->∃c,X.env.cells.lookup y.1=some c:=fun y hy e=>by
  rcases ok.free y hy e with k|k
  .exact I.ok.has _ (.inl k)
  .exact I.ok.has _ (.inr k)
 refine wpAny_comprehension_free (use:=use) rfl hs (yG hfree) ok.kind (fun y hy e=>by rw[ok.uniq y hy,e])
  (cO (hi pins s σ H _ I h) fun xv s1 hx=>cO hx fun itv s2 h2=>?_)
 obtain⟨it,fp,tn,J,H2,e,I2,T,st2,f2,q⟩:=h2;subst e;refine KM (wg ?_) (by show 0<=sizeLine;decide);generalize hD:s2.heap.objs.size=D;have hDn:H2 D=none:=I2.hok.fresh (Nat.le_of_eq hD);obtain⟨W,⟨m0,w0⟩,turn⟩:=q D hDn;generalize hs3:({s2 with heap:=s2.heap.push {cls:=.type "list",data:=.seq ([]:List Value).toArray}}:Shared)=s3;have I3:Inv X pins σ (upd H2 D (.lst [])) s3:=by
  rw[<-hs3];refine I2.laid (t':=s2.toks) (fun b o e=>JZ _ e) (Nat.le_of_eq hD) ⟨Kq _,[],0,.nil,?_⟩;rw[<-hD];exact J6 _ rfl
 have h3:s3.heap=s2.heap.push {cls:=.type "list",data:=.seq ([]:List Value).toArray}:=by rw[<-hs3]
 have sz:∀b∈fp,b<s2.heap.objs.size:=fun b hb=>by
  obtain⟨o,e,_⟩:=T.obj _ _ st2 b hb;exact Kc e
 have f3:∀b∈fp,mM X pins (upd H2 D (.lst [])) b/\b<s3.heap.objs.size:=fun b hb=>by
  have hlt:=sz b hb;refine⟨⟨?_,(f2 b hb).2⟩,by rw[h3,Heap.size_push];exact Nat.lt_succ_of_lt hlt⟩;rw[ai (by rw[<-hD];exact Kv hlt)];exact(f2 b hb).1
 have st3:tn 0 s3.heap:=T.keep _ _ _ st2 fun b _ o e=>by rw[h3];exact JZ _ e
 have I4:=xm I3 ok hN f3;have acc0:=EN (use:=use) (Qf:=Qf) (D:=D) (scope:=scope) (ce:=compEnvC scope (cellsFrom (s3.heap.objs.size+1) scope.names (cJ X.env.cells scope.names [])) s3.heap.objs.size X.env) hA hst hfr I3 (fun b hb=>(f3 b hb).1) rfl rfl;have I4:=I4.wish (notedBy (model X.prog X.w) X.A (compEnvC scope (cellsFrom (s3.heap.objs.size+1) scope.names (cJ X.env.cells scope.names [])) s3.heap.objs.size X.env) fun e s'=>compPost (model X.prog X.w) X.A X.xe use Qf (.ref D) s3.heap.objs.size (.error e) s');have pg:=hg s3 (upd H2 D (.lst [])) s3.heap.objs.size (cellsFrom (s3.heap.objs.size+1) scope.names (cJ X.env.cells scope.names [])) fp _ acc0;have pt:=ht s3 (upd H2 D (.lst [])) s3.heap.objs.size (cellsFrom (s3.heap.objs.size+1) scope.names (cJ X.env.cells scope.names [])) fp _ acc0;have pe:=he s3 (upd H2 D (.lst [])) s3.heap.objs.size (cellsFrom (s3.heap.objs.size+1) scope.names (cJ X.env.cells scope.names [])) fp _ acc0;clear acc0;change Inv (X.blkx s3 (upd H2 D (.lst [])) scope (compEnvC scope (cellsFrom (s3.heap.objs.size+1) scope.names (cJ X.env.cells scope.names [])) s3.heap.objs.size X.env) fp _) [] _ _ _ at I4;show codeAny _ _ (.compStart (.ListComp elt [⟨tg,iter,ifs,0⟩] scope pos) 0 (.ref it) (.ref D) (compEnvC scope (cellsFrom (s3.heap.objs.size+1) scope.names (cJ X.env.cells scope.names [])) s3.heap.objs.size X.env)) (compPost (model X.prog X.w) X.A X.xe use Qf (.ref D) s3.heap.objs.size) {s3 with heap:=pushCells (s3.heap.push {cls:=.type "dict",data:=.dict #[]}) scope.names};have nfp:∀b∈fp,(upd H2 D (.lst [])) b=none:=fun b hb=>(f3 b hb).1.1;generalize hce:compEnvC scope (cellsFrom (s3.heap.objs.size+1) scope.names (cJ X.env.cells scope.names [])) s3.heap.objs.size X.env=ce at I4 pg pt pe ⊢;have cL:ce.locals=s3.heap.objs.size:=by subst hce;rfl
 generalize hH3:upd H2 D (.lst [])=H3 at I3 I4 pg pt pe w0 nfp f3;generalize hs4:({s3 with heap:=pushCells (s3.heap.push {cls:=.type "dict",data:=.dict #[]}) scope.names}:Shared)=s4 at I4 ⊢;have st4:tn 0 s4.heap:=T.keep _ _ _ st3 fun b _ o e=>by rw[<-hs4];exact pushCells_keeps _ _ _ _ (JZ _ e)
 have stat:∀{σ':St} {H':Hp} {s':Shared},Inv (X.blkx s3 H3 scope ce fp (notedBy (model X.prog X.w) X.A ce fun e s'=>compPost (model X.prog X.w) X.A X.xe use Qf (.ref D) s3.heap.objs.size (.error e) s')) [] σ' H' s'->(∀b∈fp,H' b=none)->∀b∈fp,mM (X.blkx s3 H3 scope ce fp (notedBy (model X.prog X.w) X.A ce fun e s'=>compPost (model X.prog X.w) X.A X.xe use Qf (.ref D) s3.heap.objs.size (.error e) s')) [] H' b:=fun {σ' H' s'} I' hn b hb =>
  ⟨hn b hb,(I'.ok.exf b hb).1,I'.ok.exfs b hb,.inl hb,fun x c e=>(I'.ok.exf b hb).2 x c e,fun p hp=>absurd (show p∈([]:List (Addr×Obj))++[] from hp) (by simp)⟩
 have loop:codeAny (model X.prog X.w) X.A (.compLoop (.ListComp elt [⟨tg,iter,ifs,0⟩] scope pos) 0 (.ref it) (.ref D) ce) (compPost (model X.prog X.w) X.A X.xe use Qf (.ref D) s3.heap.objs.size) s4:=by
  refine u6 (fun n s'=>∃i H',Inv (X.blkx s3 H3 scope ce fp (notedBy (model X.prog X.w) X.A ce fun e s'=>compPost (model X.prog X.w) X.A X.xe use Qf (.ref D) s3.heap.objs.size (.error e) s')) [] (wipe σ (own.map (·.2))) H' s'/\tn i s'.heap/\(∀b∈fp,H' b=none)/\W i n H') ?_ m0 ⟨0,H3,I4,st4,nfp,w0⟩;rintro n s5 ⟨i,H5,I5,st5,n5,w5⟩;rcases turn i n H5 w5 with⟨stop,qq⟩|⟨go,Nx,hNx,step⟩
  .have td:=T.done (X.blkx s3 H3 scope ce fp (notedBy (model X.prog X.w) X.A ce fun e s'=>compPost (model X.prog X.w) X.A X.xe use Qf (.ref D) s3.heap.objs.size (.error e) s')) rfl rfl rfl hc i [] s5 _ H5 (notedBy (model X.prog X.w) X.A ce fun e s'=>compPost (model X.prog X.w) X.A X.xe use Qf (.ref D) s3.heap.objs.size (.error e) s') I5 (stat I5 n5) st5 stop;refine cO td fun r s6 ⟨hr,I6⟩=>?_;subst hr;have I7:Inv X pins σ H5 s6:=I3.call' (ch:=fp) I6.os I6.base I6.hok I6.bare fun b hb=>⟨(f3 b hb).1.2.2.2.1,(f3 b hb).1.2.1,(f3 b hb).1.2.2.2.2.1,(f3 b hb).1.2.2.2.2.2⟩
   have nC:H5 s3.heap.objs.size=none:=by
    have z:H5 ce.locals=none:=I6.free;rw[cL]at z;exact z
   obtain⟨m,hn,_⟩:=I6.loc;have hn:s6.heap.Ns ce.locals m:=hn;rw[cL]at hn;exact hRR D s3.heap.objs.size s6 m H5 I7 qq hn (I3.fpOk (JY _) nC)
  .have ti:=T.item (X.blkx s3 H3 scope ce fp (notedBy (model X.prog X.w) X.A ce fun e s'=>compPost (model X.prog X.w) X.A X.xe use Qf (.ref D) s3.heap.objs.size (.error e) s')) rfl rfl rfl hc i [] s5 _ H5 (notedBy (model X.prog X.w) X.A ce fun e s'=>compPost (model X.prog X.w) X.A X.xe use Qf (.ref D) s3.heap.objs.size (.error e) s') I5 (stat I5 n5) st5 go;refine cO ti fun r s6 ⟨u,hr,h6⟩=>?_;subst hr;refine cO h6 fun _ s7 ⟨x,H7,I7,r7,y7,st7,n7⟩=>?_;have I7':=I7.pinned (stat I7 n7) (T.obj _ _ st7);refine cO (pg _ s7 _ H7 x u _ I7' r7 (step x H7 y7)) fun _ s8 ⟨σ8,H8,I8,hw8,q8⟩=>?_;refine cO (pt _ s8 σ8 H8 _ I8 q8) fun b s9 ⟨H9,I9,q9⟩=>?_;have fin:∀{s':Shared} {H':Hp},Inv (X.blkx s3 H3 scope ce fp (notedBy (model X.prog X.w) X.A ce fun e s'=>compPost (model X.prog X.w) X.A X.xe use Qf (.ref D) s3.heap.objs.size (.error e) s')) ([]++qB fp s7.heap) σ8 H' s'->Nx H'->∃m,m<n/\∃i H',Inv (X.blkx s3 H3 scope ce fp (notedBy (model X.prog X.w) X.A ce fun e s'=>compPost (model X.prog X.w) X.A X.xe use Qf (.ref D) s3.heap.objs.size (.error e) s')) [] (wipe σ (own.map (·.2))) H' s'/\tn i s'.heap/\(∀b∈fp,H' b=none)/\W i m H':=fun {s' H'} I' nx=>by
    obtain⟨m',hm,w'⟩:=hNx H' nx;have pin':∀b∈fp,∀o,s7.heap.get? b=some o->s'.heap.get? b=some o/\H' b=none:=fun b hb o e =>
     let z:=I'.pin (b,o) (KG _ (KG _ (mE hb e)))
     ⟨z.1,z.2.1⟩
    have hl:(wipe σ (own.map (·.2))).length=σ8.length:=by rw[<-hw8,kj]
    refine⟨m',hm,i+1,H',(I'.unpinned (pins:=[])).weak hl (fun j v e=>?_),T.keep _ _ _ st7 fun b hb o e=>(pin' b hb o e).1,fun b hb=>?_,w'⟩
    .rw[<-hw8]at e;exact(oa e).1
    .obtain⟨o,e,_⟩:=T.obj _ _ st7 b hb;exact(pin' b hb o e).2
   cases b with
   |false =>
    simp only[KB,if_false]at q9 ⊢;exact fin I9 q9
   |true =>
    simp only[if_true]at q9 ⊢;refine cO (pe _ s9 σ8 H9 _ I9 q9) fun z s10 ⟨yv,H10,I10,r10,acc,hD10,hz10,nx⟩=>?_;exact GX (X:=X.blkx s3 H3 scope ce fp (notedBy (model X.prog X.w) X.A ce fun e s'=>compPost (model X.prog X.w) X.A X.xe use Qf (.ref D) s3.heap.objs.size (.error e) s')) I10 hD10 hz10 r10 fun s11 I11=>fin I11 nx
 exact codeAny_compStart_list loop (T.self X.A 0 _ _ _ st4 loop)
theorem gh{own:List (Str×Nat)}{E:XK}(hA:Acc X (fun _=>E))(hst:X.stack=X.env::X.outer)(hfr:X.env.frame=some X.env.locals)(hc:X.calm=true)(hN:X.N.Nodup)(hi:PI X tg iter wi)(ok:xD X.N X.env.scope scope own)(hg:∀(s:Shared) (H:Hp) (C:Addr) (cl:List (Str×Addr)) (fp:List Addr) (xe:Value->Shared->Prop),Acc (X.blkx s H scope (compEnvC scope cl C X.env) fp xe) (fun _=>E)->PG (X.blkx s H scope (compEnvC scope cl C X.env) fp xe) tg g)(ht:∀(s:Shared) (H:Hp) (C:Addr) (cl:List (Str×Addr)) (fp:List Addr) (xe:Value->Shared->Prop),Acc (X.blkx s H scope (compEnvC scope cl C X.env) fp xe) (fun _=>E)->Ik (X.blkx s H scope (compEnvC scope cl C X.env) fp xe) ifs tt)(he:∀(s:Shared) (H:Hp) (C:Addr) (cl:List (Str×Addr)) (fp:List Addr) (xe:Value->Shared->Prop),Acc (X.blkx s H scope (compEnvC scope cl C X.env) fp xe) (fun _=>E)->PE (X.blkx s H scope (compEnvC scope cl C X.env) fp xe) elt te)(hs:∀x,foldedSetIterable iter X.env x=pure x:=by intro _;rfl):
  PE X (.ListComp elt [⟨tg,iter,ifs,0⟩] scope pos) (Hn wi g tt te (own.map (·.2))):=by
 intro pins s σ H Q I h;rw[eval_ListComp];refine wt hA hst hfr hc hN I hi ok hg ht he hs h fun D C s' m H' I' q hn f=>⟨m,hn,fun h'' sb=>?_⟩
 obtain⟨f0,f1,f2,f3,f4,f5⟩:=f;exact⟨.ref D,H',I'.turned (t':=s'.toks) (fun b o hb e=>(sb.2 b hb).trans e) f0 f1 f3 f4 f5,rfl,q⟩
end
end L2
namespace PySem
open Sem (wp)
open AutoSeq1 (wpAny_loadPart')
section
variable{prog:Program}{w:World}{A:Around}{E:Value->Shared->Prop}{s:Shared}
theorem nt{it l:Addr}{i:Nat}{items}{x:Value}{Q:Value->Shared->Prop}(hit:s.heap.IsTupleIter it l i)(hl:s.heap.IsTuple l items)(hx:items[i]?=some x)(hQ:∀h',h'.IsTupleIter it l (i+1)->Heap.SameBut it s.heap h'->Q x {s with heap:=h'}):
  wpAny (model prog w) A (Builtin.SmallTypes.nextOf (.ref it)) Q E s:=by
 obtain⟨o,ho,hc,hd⟩:=id hit;obtain⟨ol,hol,_,nl,hdl⟩:=hl;unfold Builtin.SmallTypes.nextOf;refine JR (wpAny_callSpecial?_slot (name:=Str.ofString "__next__") hit.typeIs F.slot_tuple_iterator_next
  (wpAny_call_entry F.slot_tuple_iterator_next hit.typeIs F.entry_tuple_iterator_next ?_ (F.args_tuple_iterator_next_1 _)))
 show wpAny _ _ (field (.ref it) 0 >>= _) _ _ s;refine JR (KS ho hd (x:=.ref l) rfl ?_);rw[JU (show ¬((Value.ref l==Value.none)=true) from J9)];refine JR (KS ho hd (x:=.int i 0) rfl ?_);refine JR (wpAny_seqItems hol hdl ?_);simp only[Lj,hx];refine JR (wpAny_setField ho hd (by simp) (JV ⟨x,rfl,JV (hQ _ ?_ (Heap.SameBut.update ..))⟩));exact⟨_,KA _ ho (Obj.isFreed_of_fields (KN hd _)),(Obj.cls_mapFields ..).trans hc,by
  rw[KN hd];simp[rawInt]⟩
theorem jz{it l:Addr}{i:Nat}{items}{Q:Value->Shared->Prop}(hh:A.handled=none)(hit:s.heap.IsTupleIter it l i)(hl:s.heap.IsTuple l items)(hx:items[i]?=none)(hE:∀h' e,Heap.ExtBut it s.heap h'->(∃o,h'.get? e=some o/\o.cls = .type "StopIteration")->E (.ref e) {s with heap:=h'}):
  wpAny (model prog w) A (Builtin.SmallTypes.nextOf (.ref it)) Q E s:=by
 obtain⟨o,ho,hc,hd⟩:=id hit;obtain⟨ol,hol,_,nl,hdl⟩:=hl;unfold Builtin.SmallTypes.nextOf;refine JR (wpAny_callSpecial?_slot (name:=Str.ofString "__next__") hit.typeIs F.slot_tuple_iterator_next
  (wpAny_call_entry F.slot_tuple_iterator_next hit.typeIs F.entry_tuple_iterator_next ?_ (F.args_tuple_iterator_next_1 _)))
 show wpAny _ _ (field (.ref it) 0 >>= _) _ _ s;refine JR (KS ho hd (x:=.ref l) rfl ?_);rw[JU (show ¬((Value.ref l==Value.none)=true) from J9)];refine JR (KS ho hd (x:=.int i 0) rfl ?_);refine JR (wpAny_seqItems hol hdl ?_);simp only[Lj,hx];refine JR (wpAny_rule (JR (wpAny_setField ho hd (by simp) ?_)));show wpAny _ _ (newExc (.type "StopIteration") [] >>= _) _ _ _;refine JR ?_;simp only[newExc,newTuple];refine JR (KM ?_ (by size_fits));refine JR (m:=firstArgMember _ _) (wpAny_of_eq (a:=Value.none) (by first|rfl|(simp only[firstArgMember];rfl)) ?_);refine KM ?_ (by size_fits);simp only[raiseNew];refine JR (wpAny_handled ?_);first|rw[show A.in1.handled=none from hh]|rw[hh]
 refine JR (JV (wpAny_throw ?_));exact hE _ _ (((Heap.SameBut.update ..).extBut.push _).push _) ⟨_,J6 _ rfl,rfl⟩
end
theorem Draws.tuple{prog:Program}{w:World}{A:Around}(hh:A.handled=none)(it l:Addr)(hne:l≠it)(items:Array Value):
  Draws prog w A it [it,l] items.size (fun i v=>items[i]?=some v) (fun i h=>h.IsTupleIter it l i/\h.IsTuple l items) where
 live:=fun _ _ st=>let ⟨o,ho,_⟩:=st.1;⟨o,ho⟩
 frame:=fun _ _ _ st hk=>⟨st.1.at fun o e=>hk it (by simp) o e,let ⟨o,ho,r⟩:=st.2;⟨o,hk l (by simp) o ho,r⟩⟩
 item:=fun i s Q E hi st hQ=>by
  refine nt st.1 st.2 (x:=items[i]) (by simp[hi]) fun h' hit' hs'=>?_;exact hQ _ h' s.toks (by simp[hi]) ⟨hit',st.2.extBut hs'.extBut hne⟩ hs'
 done:=fun s Q E st hE=>jz hh st.1 st.2 (by simp) hE
theorem Draws.shift{prog:Program}{w:World}{A:Around}{it:Addr}{fp:List Addr}{n:Nat}{P:Nat->Value->Prop}{St:Nat->Heap->Prop}(D:Draws prog w A it fp n P St)(k:Nat):
  Draws prog w A it fp (n+k) (fun i v=>k<=i/\P (i-k) v) (fun i h=>k<=i/\St (i-k) h) where
 live:=fun _ _ st=>D.live _ _ st.2
 frame:=fun _ _ _ st hk=>⟨st.1,D.frame _ _ _ st.2 hk⟩
 item:=fun i s Q E hi st hQ=>D.item (i-k) s Q E (by have:=st.1;lia) st.2 fun x h' tk p st' sb=>hQ x h' tk ⟨st.1,p⟩ ⟨by have:=st.1;lia,by have:=st.1;rw[show i+1-k=i-k+1 by lia];exact st'⟩ sb
 done:=fun s Q E st hE=>D.done s Q E (by have:=st.2;rw[K4]at this;exact this) hE
theorem oz(l:Addr)(items:Array Value)(n:Nat)(dct:Option Addr)(sl:Array (Option Value)):
  Meets (Builtin.«enumerate.__new__» ⟨[.type "enumerate",.ref l],[]⟩) (fun _ R s=>s.heap.get? l=some {cls:=.type "tuple",dict:=dct,data:=.seq items n,slots:=sl} /\
   R (.ok (.ret (.ref (s.heap.push {cls:=.type "tuple_iterator",data:=.fields #[.ref l,.int 0 0]}).objs.size)))
    {s with heap:=(s.heap.push {cls:=.type "tuple_iterator",data:=.fields #[.ref l,.int 0 0]}).push {cls:=.type "enumerate",data:=.fields #[.none,.bool false,.ref s.heap.objs.size,rawInt 0,.none,.none]}}) :=
 .of_wp fun prog w A R s h=>by
  obtain⟨hp,g,d,tk,os⟩:=s;obtain⟨hl,h⟩:=h;have hsub:=sub_enumerate;have hL:Heap.IsTuple (Shared.heap ⟨hp,g,d,tk,os⟩) l items:=⟨_,hl,rfl,n,rfl⟩
  wp_walk using wpAny_loadPart' hl
  refine wpAny_stack_any fun st=>JV ?_;split
  .rename_i c _ _ _ _ _;cases (c==Value.type "enumerate")
   .wp_walk using wpAny_loadPart' hl,wpAny_pyIter_tuple hL
    exact⟨_,rfl,h⟩
   .wp_walk using wpAny_loadPart' hl,wpAny_pyIter_tuple hL
    exact⟨_,rfl,h⟩
  .wp_walk using wpAny_loadPart' hl,wpAny_pyIter_tuple hL
   exact⟨_,rfl,h⟩
theorem oA(l:Addr)(items:Array Value)(n:Nat)(dct:Option Addr)(sl:Array (Option Value))(t:Tok):
  Meets (Builtin.«enumerate.__new__» ⟨[.type "enumerate",.ref l],[("start",.int 1 t)]⟩) (fun _ R s=>s.heap.get? l=some {cls:=.type "list",dict:=dct,data:=.seq items n,slots:=sl} /\
   R (.ok (.ret (.ref (s.heap.push {cls:=.type "list_iterator",data:=.fields #[.ref l,.int 0 0]}).objs.size)))
    {s with heap:=(s.heap.push {cls:=.type "list_iterator",data:=.fields #[.ref l,.int 0 0]}).push {cls:=.type "enumerate",data:=.fields #[.none,.bool false,.ref s.heap.objs.size,rawInt 1,.none,.none]}}) :=
 .of_wp fun prog w A R s h=>by
  obtain⟨hp,g,d,tk,os⟩:=s;obtain⟨hl,h⟩:=h;have hsub:=sub_enumerate;have hL:Heap.IsList (Shared.heap ⟨hp,g,d,tk,os⟩) l items:=⟨_,hl,rfl,n,rfl⟩
  wp_walk using wpAny_loadPart' hl
  refine wpAny_stack_any fun st=>JV ?_;split
  .rename_i c _ _ _ _ _;cases (c==Value.type "enumerate")
   .wp_walk using wpAny_loadPart' hl,wpAny_pyIter_list hL
    exact⟨_,rfl,h⟩
   .wp_walk using wpAny_loadPart' hl,wpAny_pyIter_list hL
    exact⟨_,rfl,h⟩
  .wp_walk using wpAny_loadPart' hl,wpAny_pyIter_list hL
   exact⟨_,rfl,h⟩
theorem lR(a b:Value):checkTypeCall "enumerate" ⟨[a],[("start",b)]⟩=pure ():=by kernel_rfl
theorem mD(a b:Value):checkBuiltinCall "enumerate.__new__" ⟨[.type "enumerate",a],[("start",b)]⟩=pure ():=by kernel_rfl
theorem qN{T newId:String}{self a:Value}{rest:List Value}{kw:List (Str×Value)}(hl:typeLookup (.type T) "__init__"=pure (some (.builtin "object.__init__")))(hm:Bind.madeBy (.type T)=pure (some newId))(hne:(some newId != some "object.__new__")=true):
  Meets (Builtin.«object.__init__» ⟨self::a::rest,kw⟩) (fun _ R s=>s.TypeIs self T/\R (.ok (.ret .none)) s):=by
 refine Meets.of_wp fun prog w A R s hs=>?_;obtain⟨hT,hq⟩:=hs;repeat (any_goals (first|assumption|wp_step))
 exact⟨_,rfl,hq⟩
section
variable{prog:Program}{w:World}{A:Around}{E:Value->Shared->Prop}{s:Shared}
theorem pR(obj a b:Value):argsOk "object.__init__" ⟨[obj,a],[("start",b)]⟩:=by
 unfold argsOk;rw[signature?_of (id:="object.__init__") (n:=['_','_','t','i','n','i','_','_']) (o:=['t','c','e','j','b','o']) (by kernel_rfl) F.owner_object];kernel_rfl
theorem xj{T newId initId:String}{Bn Bi:Builtin}{args:List Value}{kw:List (Str×Value)}{S:Spec}{Q Q₁:Value->Shared->Prop}(ft:TypeCalled T newId initId)(hct:checkTypeCall T ⟨args,kw⟩=pure ())(hcn:checkBuiltinCall newId ⟨.type T::args,kw⟩=pure ())(entryN:entryFor table newId=some Bn)(entryI:entryFor table initId=some Bi)(g:Meets (Bn ⟨.type T::args,kw⟩) S)(h:S A.in1 (wants Q₁ E) s)(hnext:∀obj s₁,Q₁ obj s₁->s₁.TypeIs obj T/\argsOk initId ⟨obj::args,kw⟩/\∃Si,Meets (Bi ⟨obj::args,kw⟩) Si/\Si A.in1 (wants (fun r s₂=>r = .none/\Q obj s₂) E) s₁):
  wpAny (model prog w) A (call (.type T) args kw) Q E s:=by
 obtain⟨c,tl,hmro⟩:=ft.mro;have hmade:=ft.made;have hsub:=ft.sub;refine wpAny_call (codeAny_of_tree ?_);show wpAny _ _ (callAny (.type T) _) _ _ _;refine JV ⟨Code.quiet_builtin _ (by decide +kernel),codeAny_builtin F.entry_type_call ?_⟩;rw[Around.under_plain (weight_type_call_type T args kw) (units_type_call_type T args kw)];have h1:=ft.notType;have h2:=ft.canCreate;repeat (any_goals (first|assumption|wp_step))
 refine codeAny_mono (codeAny_call_builtin ft.plain entryN (wpAny_of_eq hcn (g prog w A.in1 _ s h))) fun r s₁ hr=>?_;cases r with
 |error e=>exact hr
 |ok fl =>
  cases fl with
  |ret obj =>
   obtain⟨hT,hok,Si,gi,hsi⟩:=hnext _ _ hr;have hli:=ft.init.lookup;have hbi:=ft.init.bind obj;repeat (any_goals (first|assumption|wp_step))
   refine codeAny_mono (codeAny_call_builtin ft.init.plain entryI (ft.init.check _ _ _ _ _ _ _ _ hT hok (gi prog w A.in1 _ s₁ hsi))) fun r₂ s₂ hr₂=>?_;cases r₂ with
   |error e=>exact hr₂
   |ok fl₂ =>
    cases fl₂ with
    |ret r =>
     obtain⟨rfl,hq⟩:=hr₂;repeat (any_goals (first|assumption|wp_step))
    |_=>exact hr₂.elim
  |_=>exact hr.elim
theorem pQ{l:Addr}{items:Array Value}{t:Tok}{Q:Value->Shared->Prop}(hL:s.heap.IsList l items)(h:∀h',IsEnum h' (s.heap.objs.size+1) s.heap.objs.size 1 .none->h'.IsListIter s.heap.objs.size l 0->h'.objs.size=s.heap.objs.size+2 ->
   (∀b o,s.heap.get? b=some o->h'.get? b=some o)->Q (.ref (s.heap.objs.size+1)) {s with heap:=h'}):
  wpAny (model prog w) A (call (.type "enumerate") [.ref l] [("start",.int 1 t)]) Q E s:=by
 obtain⟨⟨c,dct,dt,sl⟩,hl,hc,n,hd⟩:=hL;replace hc:c = .type "list":=hc;replace hd:dt = .seq items n:=hd;subst hc hd;refine xj (Q₁:=fun obj s₁=>s₁.TypeIs obj "enumerate"/\Q obj s₁) F.called_enumerate (lR _ _) (mD _ _) F.entry_enumerate_new F.entry_object_init
  (oA l items n dct sl t) ⟨hl,?_⟩ fun obj _ hq=>⟨hq.1,pR _ _ _,_,qN F.called_enumerate.init.lookup F.called_enumerate.made (by decide),hq.1,rfl,hq.2⟩
 have hz:(s.heap.push {cls:=.type "list_iterator",data:=.fields #[.ref l,.int 0 0]}).objs.size=s.heap.objs.size+1:=Heap.size_push ..;show _/\_;rw[hz];have he:IsEnum ((s.heap.push {cls:=.type "list_iterator",data:=.fields #[.ref l,.int 0 0]}).push
   {cls:=.type "enumerate",data:=.fields #[.none,.bool false,.ref s.heap.objs.size,rawInt 1,.none,.none]}) (s.heap.objs.size+1) s.heap.objs.size 1 .none:=by
  have:=J6 (s.heap.push {cls:=.type "list_iterator",data:=.fields #[.ref l,.int 0 0]})
   (o:={cls:=.type "enumerate",data:=.fields #[.none,.bool false,.ref s.heap.objs.size,rawInt 1,.none,.none]}) rfl
  rw[hz]at this;exact this
 exact⟨⟨_,he,rfl⟩,h _ he ⟨_,JZ _ (J6 _ rfl),rfl,rfl⟩ (by rw[Heap.size_push,hz]) fun b o x=>JZ _ (JZ _ x)⟩
theorem pP{l:Addr}{items:Array Value}{Q:Value->Shared->Prop}(hL:s.heap.IsTuple l items)(h:∀h',IsEnum h' (s.heap.objs.size+1) s.heap.objs.size 0 .none->h'.IsTupleIter s.heap.objs.size l 0->h'.objs.size=s.heap.objs.size+2 ->
   (∀b o,s.heap.get? b=some o->h'.get? b=some o)->Q (.ref (s.heap.objs.size+1)) {s with heap:=h'}):
  wpAny (model prog w) A (call (.type "enumerate") [.ref l]) Q E s:=by
 obtain⟨⟨c,dct,dt,sl⟩,hl,hc,n,hd⟩:=hL;replace hc:c = .type "tuple":=hc;replace hd:dt = .seq items n:=hd;subst hc hd;refine callType_new F.called_enumerate (by decide) (F.typeCall_enumerate_1 _) (F.newCall_enumerate_1 _) (fun obj=>F.args_object_init_2 obj _) F.entry_enumerate_new
  (oz l items n dct sl) ⟨hl,?_⟩
 have hz:(s.heap.push {cls:=.type "tuple_iterator",data:=.fields #[.ref l,.int 0 0]}).objs.size=s.heap.objs.size+1:=Heap.size_push ..;show _/\_;rw[hz];have he:IsEnum ((s.heap.push {cls:=.type "tuple_iterator",data:=.fields #[.ref l,.int 0 0]}).push
   {cls:=.type "enumerate",data:=.fields #[.none,.bool false,.ref s.heap.objs.size,rawInt 0,.none,.none]}) (s.heap.objs.size+1) s.heap.objs.size 0 .none:=by
  have:=J6 (s.heap.push {cls:=.type "tuple_iterator",data:=.fields #[.ref l,.int 0 0]})
   (o:={cls:=.type "enumerate",data:=.fields #[.none,.bool false,.ref s.heap.objs.size,rawInt 0,.none,.none]}) rfl
  rw[hz]at this;exact this
 exact⟨⟨_,he,rfl⟩,h _ he ⟨_,JZ _ (J6 _ rfl),rfl,rfl⟩ (by rw[Heap.size_push,hz]) fun b o x=>JZ _ (JZ _ x)⟩
end
end PySem
namespace L2
open PySem PySem.Spec PyProof.Rows
variable{h h' h2 B:Heap}{k t' i j n ep kk:Nat}{v u pm cdv oc vl vu cls:Value}{a b it C sl L ea:Addr}{x name m qual:Str}{y:V}{E Q Qf:Value->Shared->Prop}{s s':Shared}{xs ys:List V}{us its its' args bm sub:List Value}{H H' H1:Hp}{o od oe:Obj}{P:Program}{e c tg iter value elt:Expr}{X:Cx}{pins p0 pe:List (Addr×Obj)}{g':Array GenState}{d':Drawn}{ch fp:List Addr}{M:Model}{pos pos' p tpos apos p2 cpos np:Pos}{ta te to tv td:TE}{op:CmpOp}{st:Stmt}{es:Array DictEntry}{g:TG}{body:List Stmt}{R:Result->Shared->Prop}{lo hi:Option Int}{pl:Sem Bool}{wi:TI}{D:Ends}{f:Value->Value->Sem Value}{r:V->Option Int->Option Int->Hp->VK->Prop}{dx an dd:Option Addr}{mA mN:Str->Option Value}{kw:List (Str×Value)}{fd:FuncData}{ps sn:List Str}{CX:G6}{sp:Sp}{kindOf:Str->Option NameKind}{sc scope:Scope}{osl:Array (Option Value)}{T newId:String}{items:Array Value}{cells:List (Str×Addr)}{ifs elts:List Expr}{tt:TT}{Qd:Hp->Prop}{kvs:List (KD×V)}{en:DictEntry}{use:Option (Value->Sem Unit)}{Eo:XS}{col:Option Bool}{k0 k1 k2 k3 k5:Option Value}
noncomputable def FK(S:Hp->List V->Prop)(k:Nat):It :=
 ⟨fun i H=>∃(xs:List V) (x:V),S H xs/\xs[i]?=some x,fun i H v H'=>∃T x,v = .ref T/\H T=none/\H'=upd H T (.tup [.int ((i+k:Nat):Int),x])/\∀xs,S H xs->xs[i]?=some x,fun i H=>∃xs:List V,S H xs/\xs.length<=i⟩
theorem wR{σ:St}{e:Addr}{h'':Heap}{x:V}{tk:Nat}(I:Inv X pins σ H s)(hf:∀b∈[e,it],mM X pins H b)(hel:e<s.heap.objs.size)(hil:it<s.heap.objs.size)(ru:RelV x u)(hT:h'.get? s.heap.objs.size=some {cls:=.type "tuple",data:=.seq #[.int n tk,u]})(sb:Heap.SameBut e h' h'')(hk:∀b o,b≠e->b≠it->s.heap.get? b=some o->h'.get? b=some o){tk':Nat}:
  Inv X pins σ (upd H s.heap.objs.size (.tup [.int (n:Int),x])) {s with heap:=h'',toks:=tk'}/\∀b∈[e,it],(upd H s.heap.objs.size (.tup [.int (n:Int),x])) b=none:=by
 have hT2:h''.get? s.heap.objs.size=some {cls:=.type "tuple",data:=.seq #[.int n tk,u]}:=(sb.2 _ (Nat.ne_of_gt hel)).trans hT;have new:d0 X.prog X.w (upd H s.heap.objs.size (.tup [.int (n:Int),x])) h'' s.heap.objs.size (.tup [.int (n:Int),x]) :=
  ⟨by show 2<=sizeLine;decide,[.int n tk,u],.cons ⟨_,rfl⟩ (.cons ru .nil),⟨_,hT2,rfl,_,rfl⟩⟩
 refine⟨I.turnedNew (ch:=[e,it]) (fun b ob hb q=>(sb.2 b (fun z=>hb (by simp[z]))).trans (hk b ob (fun z=>hb (by simp[z])) (fun z=>hb (by simp[z])) q)) hf (JY _) new,fun b hb=>?_⟩;have hb':b<s.heap.objs.size:=by
  have e':b=e\/b=it:=by simpa using hb
  rcases e' with z|z
  .rw[z];exact hel
  .rw[z];exact hil
 rw[ai (Kv hb')];exact(hf b hb).1
theorem qd{w:World}{K:Lq}(a e it k:Nat):
  Turn P w K (.Tuple elts kk tpos) (FK (fun H xs=>aY K H a xs) k) [e,it] e (fun i h=>(∃old,IsEnum h e it ((i+k:Nat):Int) old)/\h.IsListIter it a i/\e≠it) where
 mem:=by simp
 obj:=fun i h st b hb=>by
  obtain⟨⟨old,he⟩,⟨o,ho,hc,hd⟩,_⟩:=st;have e':b=e\/b=it:=by simpa using hb
  rcases e' with z|z
  .rw[z];exact⟨_,he,fun v q=>nomatch q⟩
  .rw[z];exact⟨o,ho,fun v q=>by rw[hd]at q;cases q⟩
 keep:=fun i h h' st k=>let ⟨⟨old,he⟩,hi,hne⟩:=st;⟨⟨old,k e (by simp) _ he⟩,hi.at fun o q=>k it (by simp) o q,hne⟩
 item:=by
  intro X hP hw hK hc i pins s σ H E I hf st hg;subst hP hw hK;obtain⟨⟨old,he⟩,hit,hne⟩:=st;obtain⟨xs,x,hq,hx⟩:=hg;obtain⟨its,rv,p,hz⟩:=I.list hq;obtain⟨u,hu,ru⟩:=rv.get hx;have hel:e<s.heap.objs.size:=Kc he;have hil:it<s.heap.objs.size:=by obtain⟨_,q,_⟩:=hit;exact Kc q
  have hai:a≠it:=by
   rintro rfl;obtain⟨o,q,c,_⟩:=hit;obtain⟨o2,q2,c2,_⟩:=p.isList;rw[q]at q2;cases q2;rw[c]at c2;exact absurd (Value.type.inj c2) (by decide)
  have hae:a≠e:=by
   rintro rfl;obtain⟨o2,q2,c2,_⟩:=p.isList;rw[he]at q2;cases q2;exact absurd (Value.type.inj c2) (by decide)
  have hux:its.toArray[i]?=some u:=by simpa using hu
  have hil2:i<its.toArray.size:=(Kp.mp hux).1;refine wpAny_pyNext_enum_itemD ((Draws.list (show X.A.in1.handled=none from I.ok.hd hc) it a hai its.toArray).shift k) he ⟨by lia,by rw[K4];exact⟨hit,p.isList⟩⟩ (by lia) hne (by simp[hne,Ne.symm hae]) fun x' h' tk px ho hst hT hsz hk=>?_;have px2:its.toArray[i+k-k]?=some x':=px.2;rw[K4,hux]at px2;cases px2;refine⟨_,rfl,wpAny_letOwnedTupleGo_enum (s:={s with heap:=h',toks:=tk+1}) ho fun h'' he' sb=>?_⟩;obtain⟨I1,hn⟩:=wR (tk':=tk+1) I hf hel hil ru hT sb hk;have hst2:h'.IsListIter it a (i+k+1-k):=hst.2.1;rw[show i+k+1-k=i+1 by lia]at hst2;refine⟨.ref s.heap.objs.size,_,I1,rfl,⟨_,x,rfl,I.hok.fresh (JY _),rfl,fun ys hy=>by rw[I.list_inj hy hq];exact hx⟩,⟨⟨u,?_⟩,hst2.at fun o q=>(sb.2 it (Ne.symm hne)).trans q,hne⟩,hn⟩;have e1:((i+1+k:Nat):Int)=((i+k:Nat):Int)+1:=by lia
  rw[e1];exact he'
 done:=by
  intro X hP hw hK hc i pins s σ H E I hf st hg;subst hP hw hK;obtain⟨⟨old,he⟩,hit,hne⟩:=st;obtain⟨xs,hq,hx⟩:=hg;obtain⟨its,rv,p,hz⟩:=I.list hq;obtain⟨f0,f1,f2,f3,f4,f5⟩:=hf it (by simp);have hl:=rv.length;have D:Draws X.prog X.w X.A.in1 it [it,a] i (fun _ _=>False) (fun j h=>j=i/\h.IsListIter it a i/\h.IsList a its.toArray) :=
   {live:=fun _ _ st=>let ⟨o,ho,_⟩:=st.2.1;⟨o,ho⟩
    frame:=fun _ _ _ st hk=>⟨st.1,st.2.1.at fun o e=>hk it (by simp) o e,st.2.2.at fun o e=>hk a (by simp) o e⟩
    item:=fun j s Q E hj st _=>absurd st.1 (Kv hj)
    done:=fun s Q E st hE=>wpAny_nextOf_list_end (show X.A.in1.handled=none from I.ok.hd hc) st.2.1 st.2.2 (by simp;lia) hE}
  exact wpAny_pyNext_enum_endD D he ⟨rfl,hit,p.isList⟩ fun h' eb=>⟨rfl,I.turned (t':=s.toks) (fun b o hb q=>eb b o hb q) f0 f1 f3 f4 f5⟩
 self:=fun A i s Q E st h=>let ⟨⟨_,he⟩,_⟩:=st;wpAny_pyIter_enum he h
theorem xO{w:World}{K:Lq}(a e it k:Nat):
  Turn P w K (.Tuple elts kk tpos) (FK (fun H xs=>gG K H a xs) k) [e,it] e (fun i h=>(∃old,IsEnum h e it ((i+k:Nat):Int) old)/\h.IsTupleIter it a i/\e≠it) where
 mem:=by simp
 obj:=fun i h st b hb=>by
  obtain⟨⟨old,he⟩,⟨o,ho,hc,hd⟩,_⟩:=st;have e':b=e\/b=it:=by simpa using hb
  rcases e' with z|z
  .rw[z];exact⟨_,he,fun v q=>nomatch q⟩
  .rw[z];exact⟨o,ho,fun v q=>by rw[hd]at q;cases q⟩
 keep:=fun i h h' st k=>let ⟨⟨old,he⟩,hi,hne⟩:=st;⟨⟨old,k e (by simp) _ he⟩,hi.at fun o q=>k it (by simp) o q,hne⟩
 item:=by
  intro X hP hw hK hc i pins s σ H E I hf st hg;subst hP hw hK;obtain⟨⟨old,he⟩,hit,hne⟩:=st;obtain⟨xs,x,hq,hx⟩:=hg;obtain⟨its,rv,p,hz⟩:=I.tuple hq;obtain⟨u,hu,ru⟩:=rv.get hx;have hel:e<s.heap.objs.size:=Kc he;have hil:it<s.heap.objs.size:=by obtain⟨_,q,_⟩:=hit;exact Kc q
  have hai:a≠it:=by
   rintro rfl;obtain⟨o,q,c,_⟩:=hit;obtain⟨o2,q2,c2,_⟩:=(show s.heap.IsTuple a its.toArray from p)
   rw[q]at q2;cases q2;rw[c]at c2;exact absurd (Value.type.inj c2) (by decide)
  have hae:a≠e:=by
   rintro rfl;obtain⟨o2,q2,c2,_⟩:=(show s.heap.IsTuple a its.toArray from p)
   rw[he]at q2;cases q2;exact absurd (Value.type.inj c2) (by decide)
  have hux:its.toArray[i]?=some u:=by simpa using hu
  have hil2:i<its.toArray.size:=(Kp.mp hux).1;refine wpAny_pyNext_enum_itemD ((Draws.tuple (show X.A.in1.handled=none from I.ok.hd hc) it a hai its.toArray).shift k) he ⟨by lia,by rw[K4];exact⟨hit,(show s.heap.IsTuple a its.toArray from p)⟩⟩ (by lia) hne (by simp[hne,Ne.symm hae]) fun x' h' tk px ho hst hT hsz hk=>?_;have px2:its.toArray[i+k-k]?=some x':=px.2;rw[K4,hux]at px2;cases px2;refine⟨_,rfl,wpAny_letOwnedTupleGo_enum (s:={s with heap:=h',toks:=tk+1}) ho fun h'' he' sb=>?_⟩;obtain⟨I1,hn⟩:=wR (tk':=tk+1) I hf hel hil ru hT sb hk;have hst2:h'.IsTupleIter it a (i+k+1-k):=hst.2.1;rw[show i+k+1-k=i+1 by lia]at hst2;refine⟨.ref s.heap.objs.size,_,I1,rfl,⟨_,x,rfl,I.hok.fresh (JY _),rfl,fun ys hy=>by rw[I.tuple_inj hy hq];exact hx⟩,⟨⟨u,?_⟩,hst2.at fun o q=>(sb.2 it (Ne.symm hne)).trans q,hne⟩,hn⟩;have e1:((i+1+k:Nat):Int)=((i+k:Nat):Int)+1:=by lia
  rw[e1];exact he'
 done:=by
  intro X hP hw hK hc i pins s σ H E I hf st hg;subst hP hw hK;obtain⟨⟨old,he⟩,hit,hne⟩:=st;obtain⟨xs,hq,hx⟩:=hg;obtain⟨its,rv,p,hz⟩:=I.tuple hq;obtain⟨f0,f1,f2,f3,f4,f5⟩:=hf it (by simp);have hl:=rv.length;have D:Draws X.prog X.w X.A.in1 it [it,a] i (fun _ _=>False) (fun j h=>j=i/\h.IsTupleIter it a i/\h.IsTuple a its.toArray) :=
   {live:=fun _ _ st=>let ⟨o,ho,_⟩:=st.2.1;⟨o,ho⟩
    frame:=fun _ _ _ st hk=>⟨st.1,st.2.1.at fun o e=>hk it (by simp) o e,(let ⟨o,ho,r⟩:=st.2.2;⟨o,hk a (by simp) o ho,r⟩)⟩
    item:=fun j s Q E hj st _=>absurd st.1 (Kv hj)
    done:=fun s Q E st hE=>jz (show X.A.in1.handled=none from I.ok.hd hc) st.2.1 st.2.2 (by simp;lia) hE}
  exact wpAny_pyNext_enum_endD D he ⟨rfl,hit,(show s.heap.IsTuple a its.toArray from p)⟩ fun h' eb=>⟨rfl,I.turned (t':=s.toks) (fun b o hb q=>eb b o hb q) f0 f1 f3 f4 f5⟩
 self:=fun A i s Q E st h=>let ⟨⟨_,he⟩,_⟩:=st;wpAny_pyIter_enum he h
noncomputable def Dj(K:Lq)(H:Hp)(a:Addr)(R:It->Hp->Prop):Prop:=(∃xs,aY K H a xs)/\R (FK (fun H xs=>aY K H a xs) 0) H\/(∃xs,gG K H a xs)/\R (FK (fun H xs=>gG K H a xs) 0) H
noncomputable def Cv(K:Lq)(ta:TA):TI:=fun σ H R=>ta σ H fun vs H1=>AE vs fun a=>Dj K H1 a R
noncomputable def Cw(K:Lq)(ta:TA):TI:=fun σ H R=>ta σ H fun vs H1=>AE vs fun a=>∃xs,aY K H1 a xs/\R (FK (fun H xs=>aY K H a xs) 1) H1
section
variable{ta:TA}
theorem BP(hg:Gl X "enumerate")(hm:X.mg "enumerate"=none)(ha:PA X [e] ta)(hs:starEach [e] X.env=[(false,eval e X.env)]:=by rfl):
  PI X (.Tuple elts kk tpos) (.Call (.Name "enumerate" p) [e] [] pos) (Cv X.K ta):=by
 intro pins s σ H R I h;refine Call_ (kW I hg hm boot_enumerate (PyProof.Rows.callWith_type1 (cO (ha pos pins s σ H _ I h) fun us s1 ⟨vs,H1,I1,r1,q1⟩=>?_) hs rfl));obtain⟨a,ex,q1⟩:=zz q1;subst ex;cases r1 with
 |cons r rr =>
  cases rr;cases r;have fin:∀b∈[s1.heap.objs.size+1,s1.heap.objs.size],mM X pins H1 b:=fun b hb=>by
   have e':b=s1.heap.objs.size+1\/b=s1.heap.objs.size:=by simpa using hb
   have hle:s1.heap.objs.size<=b:=by
    rcases e' with z|z
    .rw[z];exact Nat.le_add_right _ _
    .rw[z];exact JY _
   exact I1.fpOk hle (I1.hok.fresh hle)
  rcases q1 with⟨⟨xs,hq⟩,q⟩|⟨⟨xs,hq⟩,q⟩
  .obtain⟨its,rv,p',hz⟩:=I1.list hq;refine call_enumerate_list p'.isList fun h' he hit hsz hk=>wpAny_pyIter_enum he ?_;exact⟨s1.heap.objs.size+1,[s1.heap.objs.size+1,s1.heap.objs.size],_,_,H1,rfl,I1.kept (t':=s1.toks) hk,qd a (s1.heap.objs.size+1) s1.heap.objs.size 0,⟨⟨.none,he⟩,hit,Nat.succ_ne_self _⟩,fin,q⟩
  .obtain⟨its,rv,p',hz⟩:=I1.tuple hq;refine pP (show s1.heap.IsTuple a its.toArray from p') fun h' he hit hsz hk=>wpAny_pyIter_enum he ?_;exact⟨s1.heap.objs.size+1,[s1.heap.objs.size+1,s1.heap.objs.size],_,_,H1,rfl,I1.kept (t':=s1.toks) hk,xO a (s1.heap.objs.size+1) s1.heap.objs.size 0,⟨⟨.none,he⟩,hit,Nat.succ_ne_self _⟩,fin,q⟩
theorem oQ{A:Around}{args:List (Bool×Sem Value)}{keywords:List (Option Str×Sem Value)}(hplain:args.any (·.1)=false)(hkw:keywords.any (·.1.isNone)=false)(h:wpAny M A (evalArgs (.type T) true args keywords) (fun a s₁=>wpAny M A (call (.type T) ([]++a.pos) a.kw) Q E s₁) E s):
  wpAny M A (callWith pos (.type T) [] args keywords) Q E s:=by
 unfold callWith;refine JR (KU (KR h (fun a s₁ h₁=>JR (wpAny_standAt ?_)) fun _ _ x=>x));simp only[hplain,hkw,Bool.or_false];refine JR (JV ?_);exact JR (KR h₁ (fun r s₂ hr=>JR (KU (wpAny_point (JV hr)))) fun _ _ x=>x)
theorem BQ{kpos:Pos}(hg:Gl X "enumerate")(hm:X.mg "enumerate"=none)(ha:PA X [e] ta)(hs:starEach [e] X.env=[(false,eval e X.env)]:=by rfl):
  PI X (.Tuple elts kk tpos) (.Call (.Name "enumerate" p) [e] [⟨some "start",.Constant (.int 1) j cpos,kpos⟩] pos) (Cw X.K ta):=by
 intro pins s σ H R I h;refine wpAny_Call_Name_kw (kW I hg hm boot_enumerate (oQ ?_ ?_ ?_))
 .rw[hs];rfl
 .rfl
 have hs':backTo pos (starEach [e] X.env)=(false,eval e X.env)::backTo pos (starEach [] X.env):=by rw[hs];rfl
 have ha':=ha pos pins s σ H _ I h;rw[hs']at ha' ⊢;refine evalArgs_kwB rfl (cO ha' fun us s1 ⟨vs,H1,I1,r1,q1⟩=>?_);refine kws_cons (wpAny_Constant_int (kws_nil ?_));obtain⟨a,ex,xs,hq,q⟩:=zz q1;subst ex;cases r1 with
 |cons r rr =>
  cases rr;cases r;have I1':Inv X pins σ H1 {s1 with toks:=s1.toks+1}:=I1.tok _;obtain⟨its,rv,p',hz⟩:=I1'.list hq;refine pQ p'.isList fun h' he hit hsz hk=>wpAny_pyIter_enum he ?_;refine⟨s1.heap.objs.size+1,[s1.heap.objs.size+1,s1.heap.objs.size],_,_,H1,rfl,I1'.kept (t':=s1.toks+1) hk,qd a (s1.heap.objs.size+1) s1.heap.objs.size 1,⟨⟨.none,he⟩,hit,Nat.succ_ne_self _⟩,fun b hb=>?_,q⟩;have e':b=s1.heap.objs.size+1\/b=s1.heap.objs.size:=by simpa using hb
  have hle:s1.heap.objs.size<=b:=by
   rcases e' with z|z
   .rw[z];exact Nat.le_add_right _ _
   .rw[z];exact JY _
  exact I1.fpOk hle (I1.hok.fresh hle)
end
theorem om{y:Str}{py:Pos}{own:List (Str×Nat)}{spos:Pos}{E:XK}(hA:Acc X (fun _=>E))(hst:X.stack=X.env::X.outer)(hfr:X.env.frame=some X.env.locals)(hc:X.calm=true)(hN:X.N.Nodup)(hy:X.N[i]?=some y)(hyl:X.env.scope.names.lookup y=some .local)(hsw:swapsWith (.ListComp elt [⟨tg,iter,ifs,0⟩] scope pos) (some (.Name y py)) spos.line X.env=pure true)(hi:PI X tg iter wi)(ok:xD X.N X.env.scope scope own)(hg:∀(s:Shared) (H:Hp) (C:Addr) (cl:List (Str×Addr)) (fp:List Addr) (xe:Value->Shared->Prop),Acc (X.blkx s H scope (compEnvC scope cl C X.env) fp xe) (fun _=>E)->PG (X.blkx s H scope (compEnvC scope cl C X.env) fp xe) tg g)(ht:∀(s:Shared) (H:Hp) (C:Addr) (cl:List (Str×Addr)) (fp:List Addr) (xe:Value->Shared->Prop),Acc (X.blkx s H scope (compEnvC scope cl C X.env) fp xe) (fun _=>E)->Ik (X.blkx s H scope (compEnvC scope cl C X.env) fp xe) ifs tt)(he:∀(s:Shared) (H:Hp) (C:Addr) (cl:List (Str×Addr)) (fp:List Addr) (xe:Value->Shared->Prop),Acc (X.blkx s H scope (compEnvC scope cl C X.env) fp xe) (fun _=>E)->PE (X.blkx s H scope (compEnvC scope cl C X.env) fp xe) elt te)(hs:∀x,foldedSetIterable iter X.env x=pure x:=by intro _;rfl):
  PS X (.Assign [.Name y py] (.ListComp elt [⟨tg,iter,ifs,0⟩] scope pos) spos) (Bg (Hn wi g tt te (own.map (·.2))) (mh i)):=by
 intro pins s σ H D I h;rw[exec_Assign_Name_used _ _ _ _ hsw];refine JR (wpAny_standAt (JR ?_));show wpAny _ X.A (do let _ <-comprehension (.ListComp elt [⟨tg,iter,ifs,0⟩] scope pos) scope X.env (firstIterPos [⟨tg,iter,ifs,0⟩] pos) (newList []) false (eval iter X.env) (some (assign (.Name y py) X.env))) _ _ s;have h:Hn wi g tt te (own.map (·.2)) σ H (fun x H1=>mh i x σ H1 D.nx):=h;refine JR (cO (wt (Qf:=fun _ s'=>SP X pins D .next s') hA hst hfr hc hN I hi ok hg ht he hs h fun L C s' m H' I' q hn f=>?_) fun _ s' hq=>JV (JV hq));show wpAny _ _ (assign (.Name y py) X.env (.ref L)) _ _ _;refine wpAny_assign_Name (sR (v:=V.ref L) I' hN hy (.inl hyl) rfl (fun s2 I2 ⟨a,sb,ha⟩=>?_) (.inr hyl));obtain⟨f0,f1,f2,f3,f4,f5⟩:=f;have haC:C≠a:=by
  rcases ha with z|z
  .rw[z];exact f1
  .exact fun e=>f4 y a z e.symm
 refine⟨m,hn.sameBut sb haC,fun h3 sb3=>?_⟩;exact⟨_,H',I2.turned (t':=s2.toks) (fun b o hb e=>(sb3.2 b hb).trans e) f0 f1 f3 f4 f5,q⟩
section
variable{prog:Program}{w:World}{A:Around}
theorem me{d:Addr}{Q:Option Value->Shared->Prop}(hit:s.heap.IsValIter it d i n ep)(hod:s.heap.get? d=some od)(hdd:od.data = .dict es ep)(hsz:es.size=n)(hx:es[i]?=some en)(hQ:∀h',h'.IsValIter it d (i+1) n ep->Heap.SameBut it s.heap h'->Q (some en.val) {s with heap:=h'}):wpAny (model prog w) A (pyNext (.ref it)) Q E s:=by
 obtain⟨o,ho,hc,hd⟩:=id hit;unfold pyNext;refine JR (wpAny_attempt (wpAny_callSpecial?_slot (name:=Str.ofString "__next__") hit.typeIs F.slot_dict_valueiterator_next
  (wpAny_call_entry F.slot_dict_valueiterator_next hit.typeIs F.entry_dict_valueiterator_next ?_ (F.args_dict_valueiterator_next_1 _))))
 refine JR (JV ?_);refine JR ?_;refine JR ?_;first|refine JR (wpAny_typeNameOfWhole_valiter hit.typeIs (JV ?_))|refine JR (wpAny_typeNameOf_valiter hit.typeIs (JV ?_))
 refine JR (wpAny_fieldsOf ho hd ?_);have hown:Builtin.Dict_items.ownsTuple "dict_valueiterator"=false:=by decide
 simp only[hown,KB,if_false];show wpAny _ _ (if (Value.ref d==Value.none)=true then _ else _) _ _ s;rw[JU (show ¬((Value.ref d==Value.none)=true) from J9)];refine JR (JV ?_);refine JR (wpAny_dictEntries hod hdd ?_);rw[JU (by rw[hsz];simp)];refine JR (JV ?_);refine JR (wpAny_dictEpoch hod hdd ?_);rw[JU (by simp)];refine JV ?_;obtain⟨hlt',hen⟩:=Kp.mp hx;simp only[show ¬((i:Int)<0) from by lia,if_false,Lj,Array.getElem?_eq_getElem hlt'];refine JR ?_;first|refine JR (wpAny_typeNameOfWhole_valiter hit.typeIs (JV ?_))|refine JR (wpAny_typeNameOf_valiter hit.typeIs (JV ?_))
 refine JR (wpAny_isOneOf_valiter hit.typeIs ?_);show wpAny _ _ (setField (.ref it) 1 (rawInt ((i:Int)+1)) >>= _) _ _ s;refine JR (wpAny_setField ho hd (by simp) ?_);have hit':(s.heap.update it (Obj.mapFields (·.setIfInBounds 1 (rawInt ((i:Int)+1))))).IsValIter it d (i+1) n ep :=
  ⟨_,KA _ ho (Obj.isFreed_of_fields (KN hd _)),(Obj.cls_mapFields ..).trans hc,by rw[KN hd];simp[rawInt]⟩
 refine JR (KU ?_);refine JR (wpAny_isOneOf_valiter (s:={s with heap:=s.heap.update it (Obj.mapFields (·.setIfInBounds 1 (rawInt ((i:Int)+1))))}) hit'.typeIs ?_);refine JR (wpAny_isOneOf_valiter (s:={s with heap:=s.heap.update it (Obj.mapFields (·.setIfInBounds 1 (rawInt ((i:Int)+1))))}) hit'.typeIs ?_);show wpAny _ _ (pure es[i].val) _ _ _;rw[hen];exact JV (JV ⟨_,rfl,JV (hQ _ hit' (Heap.SameBut.update ..))⟩)
theorem nk{d:Addr}{Q:Option Value->Shared->Prop}(hh:A.handled=none)(hit:s.heap.IsValIter it d i n ep)(hod:s.heap.get? d=some od)(hdd:od.data = .dict es ep)(hsz:es.size=n)(hge:n<=i)(hQ:∀h',Heap.ExtBut it s.heap h'->Q none {s with heap:=h'}):wpAny (model prog w) A (pyNext (.ref it)) Q E s:=by
 obtain⟨o,ho,hc,hd⟩:=id hit;unfold pyNext;refine JR (wpAny_attempt (wpAny_callSpecial?_slot (name:=Str.ofString "__next__") hit.typeIs F.slot_dict_valueiterator_next
  (wpAny_call_entry F.slot_dict_valueiterator_next hit.typeIs F.entry_dict_valueiterator_next ?_ (F.args_dict_valueiterator_next_1 _))))
 refine JR (JV ?_);refine JR ?_;refine JR ?_;first|refine JR (wpAny_typeNameOfWhole_valiter hit.typeIs (JV ?_))|refine JR (wpAny_typeNameOf_valiter hit.typeIs (JV ?_))
 refine JR (wpAny_fieldsOf ho hd ?_);have hown:Builtin.Dict_items.ownsTuple "dict_valueiterator"=false:=by decide
 simp only[hown,KB,if_false];show wpAny _ _ (if (Value.ref d==Value.none)=true then _ else _) _ _ s;rw[JU (show ¬((Value.ref d==Value.none)=true) from J9)];refine JR (JV ?_);refine JR (wpAny_dictEntries hod hdd ?_);rw[JU (by rw[hsz];simp)];refine JR (JV ?_);refine JR (wpAny_dictEpoch hod hdd ?_);rw[JU (by simp)];refine JV ?_;have hge':es.size<=i:=by rw[hsz];exact hge
 simp only[show ¬((i:Int)<0) from by lia,if_false,Lj,Array.getElem?_eq_none hge'];refine JR ?_;first|refine JR (wpAny_typeNameOfWhole_valiter hit.typeIs (JV ?_))|refine JR (wpAny_typeNameOf_valiter hit.typeIs (JV ?_))
 show wpAny _ _ (setField (.ref it) 0 .none >>= _) _ _ s;refine JR (wpAny_setField ho hd (by simp) ?_);show wpAny _ _ (newExc (.type "StopIteration") [] >>= _) _ _ _;refine JR ?_;simp only[newExc,newTuple];refine JR (KM ?_ (by size_fits));refine JR (m:=firstArgMember _ _) (wpAny_of_eq (a:=Value.none) (by first|rfl|(simp only[firstArgMember];rfl)) ?_);refine KM ?_ (by size_fits);simp only[raiseNew];refine JR (wpAny_handled ?_);rw[show A.in1.handled=none from hh];refine JR (JV (wpAny_throw ?_));refine JR (wpAny_isInstance (T:="StopIteration") (b:=true) ⟨_,J6 _ rfl,rfl⟩ isSubtype_stop ?_);exact JV (hQ _ (((Heap.SameBut.update ..).extBut.push _).push _))
theorem qU(d:Addr)(hd:(d==sysModules)=false):
  MeetsIn prog w (Builtin.«dict.values» ⟨[.ref d],[]⟩) (fun _ R s=>s.TypeIs (.ref d) "dict" /\
   R (.ok (.ret (.ref s.heap.objs.size))) {s with heap:=s.heap.push {cls:=.type "dict_values",data:=.fields #[.ref d]}}) :=
 .of_wp fun A R s ⟨hT,h⟩=>by
  refine JR ?_;unfold Builtin.Dict.noArgs;refine JR (wpAny_notOrdered_dict hT ?_);show wpAny _ _ (pure d) _ _ s;refine JV ?_;show wpAny _ _ (Builtin.Dict.showsAll d >>= _) _ _ s;unfold Builtin.Dict.showsAll;rw[JU (by rw[hd];exact J9)];refine JR (JV ?_);exact JR (KM (JV ⟨_,rfl,h⟩))
theorem tf{v d:Addr}(hv:s.heap.IsValuesView v d)(ho:s.heap.get? d=some o)(hdat:o.data = .dict es ep)(hQ:Q (.ref s.heap.objs.size) {s with heap:=s.heap.push {cls:=.type "dict_valueiterator",data:=.fields #[.ref d,.int 0 0,.int es.size 0,.int ep 0]}}):
  wpAny (model prog w) A (pyIter (.ref v)) Q E s:=by
 obtain⟨ov,hov,hcv,hdv⟩:=id hv;refine wpAny_pyIter_slot hv.typeIs F.slot_dict_values_iter (wpAny_call_entry F.slot_dict_values_iter hv.typeIs F.entry_dict_values_iter ?_ (F.args_dict_values_iter_1 _));unfold Builtin.«dict_values.__iter__»;refine JR (JV ?_);refine JR ?_;unfold Builtin.Dict_items.dictOf;refine JR (KS hov hdv (x:=.ref d) rfl (JV ?_));refine JR ?_;unfold Builtin.Dict_items.newIterator;refine JR (wpAny_dictEntries ho hdat ?_);refine JR (wpAny_dictEpoch ho hdat ?_);have hown:Builtin.Dict_items.ownsTuple "dict_valueiterator"=false:=by decide
 simp only[hown,KB,if_false];refine KM (JV ⟨_,rfl,"dict_valueiterator",_,⟨_,J6 _ rfl,rfl⟩,F.slot_dict_valueiterator_next.lookup,?_⟩);simpa [rawInt]using hQ
noncomputable def Ip(h:Heap)(d:Addr)(es:Array DictEntry)(ep:Nat):Prop:=∃o,h.get? d=some o/\o.ExactDict/\o.data = .dict es ep
theorem Ip.at{d:Addr}(x:Ip h d es ep)(k:∀o,h.get? d=some o->h'.get? d=some o):Ip h' d es ep:=let ⟨o,e,r⟩:=x;⟨o,k o e,r⟩
theorem xH(hh:A.handled=none)(I d:Addr)(hne:d≠I):
  Walks prog w A I [I,d] [I] es.size (fun i v=>∃en,es[i]?=some en/\v=en.val) (fun i h=>h.IsValIter I d i es.size ep/\Ip h d es ep) where
 sub:=fun b hb=>by simp at hb;simp[hb]
 frame:=fun _ _ _ st hk=>⟨let ⟨o,e,r⟩:=st.1;⟨o,hk I (by simp) o e,r⟩,st.2.at fun o e=>hk d (by simp) o e⟩
 item:=fun i s Q E hi st hQ=>by
  obtain⟨o,ho,hx,hd⟩:=id st.2;refine me st.1 ho hd rfl (en:=es[i]) (by simp[hi]) fun h' hit' hs'=>?_;exact hQ _ h' s.toks ⟨es[i],by simp[hi],rfl⟩ ⟨hit',st.2.at fun o e=>hs'.extBut d o hne e⟩ fun b o hb e=>hs'.extBut b o (fun h=>hb (by simp[h])) e
 done:=fun s Q E st hQ=>by
  obtain⟨o,ho,hx,hd⟩:=id st.2;exact nk hh st.1 ho hd rfl (JY _) fun h' he'=>hQ h' s.toks fun b o hb e=>he' b o (fun h=>hb (by simp[h])) e
 self:=fun _ _ _ _ st hQ=>wpAny_pyIter_valiter st.1 hQ
theorem A3{r d:Addr}:PySem.W.KdlSrc prog w "dict_values" r d es.size (fun i v=>∃en,es[i]?=some en/\v=en.val) (fun h=>h.IsValuesView r d/\Ip h d es ep) where
 type:=fun _ hm=>hm.1.typeIs
 there:=fun _ hm=>⟨let ⟨_,ho,_⟩:=hm.1;Kc ho,let ⟨_,ho,_⟩:=hm.2;Kc ho⟩
 keep:=fun _ _ hm hk=>⟨let ⟨o,ho,x⟩:=hm.1;⟨o,hk r (.inl rfl) o ho,x⟩,hm.2.at fun o e=>hk d (.inr rfl) o e⟩
 notList:=by decide
 notTuple:=by decide
 hint:=fun _ _ _ _ hm hq=>PySem.W.kdl_hint_values hm.1.typeIs hq
 iter:=fun _ _ hh hm=>⟨_,_,(fun _ _ hq=>let ⟨_,ho,hx,hd⟩:=hm.2;tf hm.1 ho hd hq),xH hh _ d (let ⟨_,ho,_⟩:=hm.2;Kv (Kc ho)),⟨⟨_,J6 _ rfl,rfl,rfl⟩,hm.2.at fun o e=>JZ _ e⟩⟩
end
noncomputable def E0(d:Addr)(o:Obj)(kvs:List (KD×V)):It :=
 ⟨fun i H=>H d=some (.frz o (.dT kvs))/\i<kvs.length,fun i H x H'=>H'=H/\∃k,kvs[i]?=some (k,x),fun i H=>H d=some (.frz o (.dT kvs))/\kvs.length<=i⟩
theorem xK{w:World}{K:Lq}{d:Addr}(it:Addr)(hod:o.data = .dict es ep):Turn P w K tg (E0 d o kvs) [it] it (fun i h=>h.IsValIter it d i kvs.length ep) where
 mem:=by simp
 obj:=fun i h st b hb=>by
  have e:b=it:=by simpa using hb
  subst e;obtain⟨oi,e,c,dd⟩:=st;exact⟨oi,e,fun v z=>by rw[dd]at z;cases z⟩
 keep:=fun i h h' st k=>let ⟨oi,e,r⟩:=st;⟨oi,k it (by simp) oi e,r⟩
 item:=by
  intro X hP hw hK hc i pins s σ H E I hf st hg;subst hP hw hK;obtain⟨hd,hi⟩:=hg;obtain⟨f0,f1,f2,f3,f4,f5⟩:=hf it (by simp);obtain⟨hs,hgd,hx,es',ep',hdt,hsz,ent⟩:=I.frzT hd;obtain⟨rfl,rfl⟩:=lN hod hdt;obtain⟨⟨k,v⟩,hkv⟩:∃p,kvs[i]?=some p:=⟨kvs[i],Ks hi⟩
  obtain⟨en,q,hen,hkey,hq,rv⟩:=ent i k v hkv;refine me st hgd hdt hsz hen fun h' st' sb=>?_;have I1:Inv X pins σ H {s with heap:=h'}:=I.turned (t':=s.toks) (fun b ob hb e=>(sb.2 b hb).trans e) f0 f1 f3 f4 f5;obtain⟨oi,e,c,dd⟩:=id st';exact⟨en.val,rfl,o9 (s:={s with heap:=h'}) e c dd (by decide) ⟨v,H,I1,rv,⟨rfl,k,hkv⟩,st',fun b hb=>(hf b hb).1⟩⟩
 done:=by
  intro X hP hw hK hc i pins s σ H E I hf st hg;subst hP hw hK;obtain⟨hd,hi⟩:=hg;obtain⟨f0,f1,f2,f3,f4,f5⟩:=hf it (by simp);obtain⟨hs,hgd,hx,es',ep',hdt,hsz,ent⟩:=I.frzT hd;obtain⟨rfl,rfl⟩:=lN hod hdt;exact nk (I.ok.hd hc) st hgd hdt hsz hi fun h' eb=>⟨rfl,I.turned (t':=s.toks) (fun b ob hb e=>eb b ob hb e) f0 f1 f3 f4 f5⟩
 self:=fun A i s Q E st h=>wpAny_pyIter_valiter st h
noncomputable def Cu(td:TE):TI:=fun σ H R=>td σ H fun x H1=>kh x fun d=>∃o kvs,H1 d=some (.frz o (.dT kvs))/\R (E0 d o kvs) H1
theorem ye(he:PE X e td)(hbase:attributeBase e "values" X.env (eval e X.env)=eval e X.env:=by rfl)(hline:(apos.endLine==cpos.line)=true:=by rfl):PI X tg (.Call (.Attribute e "values" apos) [] [] cpos) (Cu td):=by
 intro pins s σ H R I h;refine wpAny_Call_method (T:="dict") (id:="dict.values") hbase rfl hline F.plainAttrs_dict F.slot_dict_values F.type_dict_values (cO (he pins s σ H _ I h) fun u s1 ⟨x,H1,I1,rx,qr⟩=>?_);obtain⟨d,ex,o,kvs,hd,q⟩:=fC qr;subst ex;obtain rfl:u=Value.ref d:=rx;obtain⟨hs,hgd,hx,es,ep,hdt,hsz,ent⟩:=I1.frzT hd;have hT:s1.TypeIs (.ref d) "dict":=⟨o,hgd,hx.1⟩
 refine⟨hT,(fun b hb=>by cases hb;exact⟨o,hgd,hx.2.1⟩),?_⟩;have I2:Inv X pins σ H1 {s1 with heap:=s1.heap.push {cls:=.type "dict_values",data:=.fields #[.ref d]}}:=I1.kept (t':=s1.toks) fun b ob q=>JZ _ q;have fin:wpAny (model X.prog X.w) X.A (pyIter (.ref s1.heap.objs.size)) (IA X pins σ tg R) X.xe {s1 with heap:=s1.heap.push {cls:=.type "dict_values",data:=.fields #[.ref d]}}:=by
  refine tf (d:=d) ⟨_,J6 _ rfl,rfl,rfl⟩ (JZ _ hgd) hdt (ot (tk:=s1.toks) I2 _ (xK _ hdt) ⟨_,J6 _ rfl,rfl,?_⟩ q);rw[hsz]<;>rfl
 show wpAny _ _ (callWith cpos (.builtin "dict.values") [.ref d] [] []) _ X.xe s1;exact method_meetsIn F.slot_dict_values F.entry_dict_values rfl (PySem.evalArgs_none ⟨rfl,hT,F.args_dict_values_1 _,_,qU d hs,hT,fin⟩)
theorem yS:∀{xs:List V} {us:List Value},xs.length=us.length->(∀(i:Nat) v u,xs[i]?=some v->us[i]?=some u->RelV v u)->aU xs us
 |[],[],_,_=>.nil
 |x::xs,u::us,hl,h=>.cons (h 0 x u rfl rfl) (yS (by simpa using hl) fun i v w hv hw=>h (i+1) v w (by simpa using hv) (by simpa using hw))
noncomputable def E8(td:TE):TE:=fun σ H Q=>td σ H fun x H1=>kh x fun d=>∃kvs,H1 d=some (.dT kvs)/\∀p,H1 p=none->Q (.ref p) (upd H1 p (.lst (kvs.map (·.2))))
theorem vZ(hc:X.calm=true)(he:PE X e td)(hg:Gl X "list")(hm:X.mg "list"=none)(hv:bootBuiltins "list"=some (.type "list"))(hbase:attributeBase e "values" X.env (eval e X.env)=eval e X.env:=by rfl)(hline:(apos.endLine==cpos.line)=true:=by rfl)(hst:starEach [.Call (.Attribute e "values" apos) [] [] cpos] X.env=(false,eval (.Call (.Attribute e "values" apos) [] [] cpos) X.env)::starEach [] X.env:=by rfl):
  PE X (.Call (.Name "list" p) [.Call (.Attribute e "values" apos) [] [] cpos] [] pos) (E8 td):=by
 intro pins s σ H Q I h;refine wpAny_Call_Name_kw (kW I hg hm hv ?_ (by decide) (by decide));refine PyProof.Rows.callWith_type1 ?_ hst rfl;show wpAny _ _ (spliced (backTo pos (starEach [.Call (.Attribute e "values" apos) [] [] cpos] X.env))) _ _ s;rw[hst];refine Calls.spliced_cons ?_;refine wpAny_Call_method (T:="dict") (id:="dict.values") hbase rfl hline F.plainAttrs_dict F.slot_dict_values F.type_dict_values (cO (he pins s σ H _ I h) fun u s1 ⟨x,H1,I1,rx,qr⟩=>?_);obtain⟨d,ex,kvs,hd,q⟩:=fC qr;subst ex;obtain rfl:u=Value.ref d:=rx;obtain⟨hz,hs,xs,pr,o,es,ep,hgd,hx,hdt,hen,_⟩:=(show d0 X.prog X.w H1 s1.heap d (.dT kvs) from I1.hok d _ hd)
 have hT:s1.TypeIs (.ref d) "dict":=⟨o,hgd,hx.1⟩
 refine⟨hT,(fun b hb=>by cases hb;exact⟨o,hgd,hx.2.1⟩),?_⟩;have l1:es.size=xs.length:=size_of_entries hen;have l2:kvs.length=xs.length:=Paired.length pr;show wpAny _ _ (callWith cpos (.builtin "dict.values") [.ref d] [] []) _ X.xe s1;refine method_meetsIn F.slot_dict_values F.entry_dict_values rfl (PySem.evalArgs_none ⟨rfl,hT,F.args_dict_values_1 _,_,qU d hs,hT,?_⟩);refine Calls.spliced_nil ?_;have I2:Inv X pins σ H1 {s1 with heap:=s1.heap.push {cls:=.type "dict_values",data:=.fields #[.ref d]}}:=I1.kept (t':=s1.toks) fun b ob q=>JZ _ q;refine PySem.W.kdl_call (A3 (r:=s1.heap.objs.size) (d:=d) (es:=es) (ep:=ep)) (I1.ok.hd hc) ⟨⟨_,J6 _ rfl,rfl,rfl⟩,⟨o,JZ _ hgd,hx,hdt⟩⟩ (by lia) fun h' tk acc' c' hk hD hacc=>?_;refine⟨.ref _,_,I2.laid (t':=tk) hk (JY _) (show d0 X.prog X.w _ h' _ (.lst (kvs.map (·.2))) from⟨by rw[Kk];exact hz,acc'.toList,c',?_,by rw[Array.toArray_toList];exact hD⟩),rfl,q _ (I2.hok.fresh (JY _))⟩;have l3:acc'.toList.length=es.size:=by rw[Lr];exact hacc.1
 refine yS (by rw[Kk];lia) fun i v u hv hu=>?_;rw[KW]at hv;obtain⟨⟨k,v'⟩,hkv,rfl⟩:=Kh.mp hv;obtain⟨b,hb,e1,e2,e3⟩:=qD pr hkv;have qe:=entry_at hen i;rw[hb]at qe;obtain⟨en,he1,he2⟩:=hacc.2 i u (by rw[<-Array.getElem?_toList];exact hu);rw[qe]at he1;cases he1;rw[he2];exact e3
noncomputable def Bc(tk tv:TE):TE:=fun σ H Q=>∀p,H p=none->tk σ (upd H p (.dT [])) fun x H1=>tv σ H1 fun y H2=>kh x fun b=>H2 p=some (.dT [])/\∃k,vA H2 b k/\Q (.ref p) (upd H2 p (.dT [(k,y)]))
theorem BZ{k v:Expr}{tk:TE}(hu:X.A.units+64<cLine)(hk:PE X k tk)(hv:PE X v tv):PE X (.Dict [some k] [v] pos) (Bc tk tv):=by
 intro pins s σ H Q I q;have hn:=I.hok.fresh (JY s.heap.objs.size);have I1:=I.laid (a:=s.heap.objs.size) (o:=.dT []) (h':=s.heap.push {cls:=.type "dict",data:=.dict #[]}) (t':=s.toks) (fun _ _ q=>JZ _ q) (JY _) (wU s.heap I.big);rw[arm_eval_Dict,zip_pairTrees [some k] [v] X.env pos rfl rfl,dictDisplay_pairs (pairTrees [some k] [v] X.env pos) (by rw[<-List.length_pos_iff,pairTrees_length [some k] [v] X.env pos rfl rfl];exact(by decide:(0:Nat)<1)) (by rw[pairTrees_length [some k] [v] X.env pos rfl rfl];exact(by decide:(1:Nat)<17))];refine JR (wpAny_standAt (JR ?_));unfold subDict;refine JR (wpAny_alloc ?_);refine JR (KU ?_);rw[JX (by rw[pairTrees_length [some k] [v] X.env pos rfl rfl];exact(by decide:(1:Nat)<=15))];refine JR (pairTrees_cons_walk (cO (hk pins _ σ _ _ I1 (q _ hn)) fun u s1 ⟨x,H1,J1,rx,q1⟩=>cO (hv pins s1 σ H1 _ J1 q1) fun w2 s2 ⟨y,H2,J2,ry,qr⟩=>pairTrees_nil_walk ?_));obtain⟨b,ex,e,kk,eb,q2⟩:=fC qr;subst ex;obtain rfl:u=Value.ref b:=rx;obtain⟨z,hd,xs,rel,dd⟩:=CT J2.hok e;cases rel;refine KU ?_;rw[List.forIn_cons];refine JR (JR (JR (wpAny_dictSet_heap (hsz:=by rw[J7];exact Kq _) (show X.A.units+16<cLine by lia) (kX J2.hok eb) dd fun h' dd' hs=>JV ?_)));show wpAny _ _ (forIn [] PUnit.unit _) _ _ _;rw[List.forIn_nil];refine JV (JV (JV (JV ?_)));obtain⟨o,es,ep,hq,h2,h3,h4,_,h5⟩:=dd';have rel0:KT H2 [] []:=.nil;have J3:=nI (t':=s2.toks+(j2 X.prog X.w).draws kk) J2 (ob:=.dT [(kk,y)]) (by rw[e];exact True.intro) hs ⟨o,hq⟩ ⟨by rw[sizeLine_eq];exact(by decide:(1:Nat)<=16777216),hd,_,(rel0.put kk eb ry).keeps (fun c ys ec=>by rw[ai (bH ec e (fun z=>nomatch z))];exact ec) (fun c ob ys ec=>by rw[ai (bH ec e (fun z=>nomatch z))];exact ec),o,es,ep,hq,h2,h3,h4,h5⟩;exact⟨.ref _,_,J3,rfl,q2⟩
theorem HN:Iz X .BitOr (zk fun i j=>.int (Builtin.bitOr i j)):=GE
section
variable{w:World}{l:List Env}
theorem zV.move(x:zV P w l ch H s ea cls dx H' B s')(st:B.StaysIn h2)(up:s'.heap.UpToSlots h2)(fl:Heap.FlAny B l ea cls dx h2):zV P w l ch H s ea cls dx H' B {s' with heap:=h2} where
 os:=x.os
 bare:=x.bare
 un:=x.un2 st up
 hok:=x.hok2 st
 fl:=fl
 cov:=fun b o e hb q=>by
  have e:h2.get? b=some o:=e;have key:∃o1,s'.heap.get? b=some o1:=by
   by_cases hn:H' b=none
   .obtain⟨hx,o0,e0⟩:=q.resolve_left (fun z=>z hn);exact x.un.there b o0 e0 hx
   .obtain⟨ho,eh⟩:=Option.ne_none_iff_exists'.mp hn;exact x.hok.there eh
  obtain⟨o1,e1⟩:=key;have e2:=x.cov b o1 e1 hb q;have e3:=st b o1 e2;rw[e3]at e;cases e;exact e2
 frl:=x.frl
end
inductive G5 (X:Cx) (E:XS) (p0:List (Addr×Obj)) (e:Value) (s':Shared):Prop
 |mk (pins:List (Addr×Obj)) (σ:St) (H:Hp) (s:Shared) (ch:List Addr) (ea:Addr) (cls:Value) (dx:Option Addr) (H':Hp) (B:Heap) (_:e = .ref ea) (_:Inv X (p0++pins) σ H s) (_:(∀b∈ch,(b∈X.ex\/X.s_0.heap.objs.size<=b)/\b≠X.env.locals/\∀p∈X.pn++(p0++pins),p.1≠b)) (_:zV X.prog X.w X.stack ch H s ea cls dx H' B s') (_:E σ cls dx H')
noncomputable def Cx.tr(X:Cx)(E:XS)(p0:List (Addr×Obj)):Cx:={X with pn:=X.pn++p0,xe:=G5 X E p0}
section
variable{E:XS}{σ:St}
theorem Cx.Ok.of_tr(k:(X.tr E p0).Ok):X.Ok:=⟨k.mod,k.kind,k.glob,k.blt,k.above,k.inj,k.has,k.cab,k.hd,k.frames,k.stk,k.exf,k.bs,k.bsz,k.noex,k.exfs,k.funs,k.frf⟩
theorem Cx.Ok.to_tr(k:X.Ok):(X.tr E p0).Ok:=⟨k.mod,k.kind,k.glob,k.blt,k.above,k.inj,k.has,k.cab,k.hd,k.frames,k.stk,k.exf,k.bs,k.bsz,k.noex,k.exfs,k.funs,k.frf⟩
theorem Inv.of_tr(I:Inv (X.tr E p0) pins σ H s):Inv X (p0++pins) σ H s:=⟨I.ok.of_tr,I.os,I.bare,I.base,I.loc,I.cell,I.free,I.freeC,fun p hp=>I.pin p (by show p∈(X.pn++p0)++pins;rw[Kx];exact hp),I.hok,I.len⟩
theorem Inv.to_tr(I:Inv X p0 σ H s):Inv (X.tr E p0) [] σ H s:=⟨I.ok.to_tr,I.os,I.bare,I.base,I.loc,I.cell,I.free,I.freeC,fun p hp=>I.pin p (by have hp:p∈(X.pn++p0)++[]:=hp;rw[Kw]at hp;exact hp),I.hok,I.len⟩
theorem vd:Acc (X.tr E p0) E:=fun pins σ H s ch I hch ea cls dx H' B s' x hE=>⟨pins,σ,H,s,ch,ea,cls,dx,H',B,rfl,I.of_tr,fun b hb=>⟨(hch b hb).1,(hch b hb).2.1,fun p hp=>(hch b hb).2.2 p (by show p∈(X.pn++p0)++pins;rw[Kx];exact hp)⟩,x,hE⟩
end
theorem j6{A:Around}{base:Heap}{l:List Env}{e:Addr}{env:Env}{fl:Value}(hkb:base.StaysIn s.heap)(hen:base.get? e=none)(hl:s.heap.FunFrames base l)(ht:s.heap.TrP base e cls dx fl)(h:∀h',Heap.FlAny base l e cls dx h'->s.heap.UpToSlots h'->E (.ref e) {s with heap:=h'}):cameBackBy M A env E (.ref e) s:=by
 obtain⟨oe,vs,T,oT,ts,he,hcls,hd,h1,hnT,hTe,hT,hdT,h3⟩:=ht;have hsz3:3<ts.size:=(Kp.mp h3).1;unfold cameBackBy;refine JR (KS he hd h1 ?_);rw[JU (show ¬((Value.ref T==Value.none)=true) from by simp)];have other:∀v b,b≠T->(s.heap.update T (Obj.mapFields (·.setIfInBounds 3 v))).get? b=s.heap.get? b :=
  fun v b hb=>KF _ _ (Ne.symm hb)
 have noRecord:∀b o,s.heap.get? b=some o->(∀vs,o.data ≠ .fields vs)->b≠T:=fun b o hb hnf q=>by
  rw[q,hT]at hb;injection hb with hb;subst hb;exact hnf ts hdT
 have fin:wpAny M A (setFlight (.ref e) env.frame) (fun _ s'=>E (.ref e) s') E s:=by
  unfold setFlight;refine JR (KS he hd h1 ?_);rw[JX (show(Value.ref T != Value.none)=true from by simp)];refine wpAny_setField hT hdT hsz3 (h _ ⟨fun b o hbo=>(other _ b fun q=>by rw[q,hnT]at hbo;cases hbo).trans (hkb b o hbo),hen,
   hl.of_keeps fun b o hb hnf=>⟨o,(other _ b (noRecord b o hb hnf)).trans hb,rfl⟩,.inl ⟨env.frame.elim Value.none fun f=>rawInt f,?_⟩⟩ fun b o hb hnf=>⟨o.slots,(other _ b (noRecord b o hb hnf)).trans hb⟩)
  exact⟨oe,vs,T,_,_,(other _ e (Ne.symm hTe)).trans he,hcls,hd,h1,hnT,hTe,KA _ hT (Obj.isFreed_of_fields (KN hdT _)),KN hdT _,by simp[hsz3]⟩
 first
  |exact fin
  |exact JR (JV fin)
theorem Al{E:XS}(hst:X.stack=X.env::X.outer)(hfr:X.env.frame=some X.env.locals):PassesOwn (model (X.tr E p0).prog (X.tr E p0).w) (X.tr E p0).A (X.tr E p0).env (X.tr E p0).xe:=by
 intro e s' h;obtain⟨pins,σ,H,s,ch,ea,cls,dx,H',B,rfl,I,hch,x,hE⟩:=h;have fl:Heap.FlAny B (X.env::X.outer) ea cls dx s'.heap:=by rw[<-hst];exact x.fl
 show wpAny (model X.prog X.w) X.A (noteFrame (.ref ea) X.env) _ _ s';refine d5 (by rw[I.ok.frames,hst]) hfr hfr fl fun h2 held up=>?_;have held:Heap.HeldP B X.stack ea cls dx X.env.locals h2:=by rw[hst];exact held
 have x2:=x.move held.1 up held.any;refine j6 (s:={s' with heap:=h2}) held.1 held.2.1 held.2.2.1 held.2.2.2 fun h3 fl3 up3=>?_;exact⟨pins,σ,H,s,ch,ea,cls,dx,H',B,rfl,I,hch,x2.move fl3.1 up3 fl3,hE⟩
noncomputable def Cx.hd(X:Cx)(e:Value)(pe:List (Addr×Obj))(xe:Value->Shared->Prop):Cx:={X with A:=X.A.mark (some e),pn:=X.pn++pe,calm:=false,xe:=xe}
section
variable{σ:St}{e:Value}{xe:Value->Shared->Prop}
theorem Inv.of_hd(k:X.Ok)(I:Inv (X.hd e pe xe) pins σ H s):Inv X pins σ H s:=⟨k,I.os,I.bare,I.base,I.loc,I.cell,I.free,I.freeC,fun p hp=>I.pin p (by
 show p∈(X.pn++pe)++pins;rcases Kj.mp hp with hp|hp
 .exact Kz _ (Kz _ hp)
 .exact KG _ hp),I.hok,I.len⟩
end
theorem iS{σ:St}{e:Value}{xe:Value->Shared->Prop}(hst:X.stack=X.env::X.outer)(hfr:X.env.frame=some X.env.locals)(hcl:∀x,X.env.cells.lookup x=none)(I:Inv X (p0++pins) σ H s)(hch:∀b∈ch,(b∈X.ex\/X.s_0.heap.objs.size<=b)/\b≠X.env.locals/\∀p∈X.pn++(p0++pins),p.1≠b)(x:zV X.prog X.w X.stack ch H s ea cls dx H' B s')(hpe:∀p∈pe,s'.heap.get? p.1=some p.2/\H' p.1=none/\p.1≠X.env.locals/\p.1∉X.fs/\∀v,p.2.data ≠ .cell v):Inv (X.hd e pe xe) p0 σ H' s':=by
 have k:=I.ok;have fst:g6 X.stack=X.env.locals::X.fs:=by rw[hst];unfold g6;rw[KC,hfr];rfl
 have hx0:∀b o,X.s_0.heap.get? b=some o->b∉X.ex->b∉ch:=fun b o e hx z=>by
  rcases(hch b z).1 with q|q
  .exact hx q
  .exact absurd (Ki (Kc e) q) (KL _)
 have hL0:∀b o,X.s_0.heap.get? b=some o->b≠X.env.locals:=fun b o e z=>by
  have h1:=Kc e;have h2:=k.above;rw[z]at h1;exact absurd (Ki h1 h2) (KL _)
 have nfr:∀b o,X.s_0.heap.get? b=some o->b∉X.fs->b∉g6 X.stack:=fun b o e hb z=>by
  rw[fst]at z;rcases Kg.mp z with z|z
  .exact hL0 b o e z
  .exact hb z
 have ub:=I.base;obtain⟨m,hn,hl⟩:=I.loc;obtain⟨oL,es,ep,eL,dL,rL⟩:=hn;have cL:X.env.locals∉ch:=fun z=>(hch _ z).2.1 rfl;obtain⟨sl,eL'⟩:=x.un.slot _ oL eL I.free (by rw[fst];exact J8) cL;refine⟨⟨k.mod,k.kind,k.glob,k.blt,k.above,k.inj,k.has,k.cab,(fun z=>by cases z),k.frames,k.stk,k.exf,k.bs,k.bsz,k.noex,k.exfs,k.funs,k.frf⟩,x.os.trans I.os,x.bare,⟨fun b o e n hb hx=>?_,fun b o e n hb hx=>?_,fun b o e n hx=>?_,fun b o e hx=>?_,fun b xs e=>?_,fun b o u e=>?_,fun b ps e=>?_⟩,⟨m,⟨_,es,ep,eL',dL,rL⟩,fun i y v hi hv hvis=>?_⟩,fun y c e=>?_,x.frl _ (by rw[fst];exact J8),fun y c e=>?_,fun p hp=>?_,x.hok,I.len⟩
 .exact x.un.keep b o (ub.keep b o e n hb hx) (ub.free b o e n hx) (nfr b o e hb) (hx0 b o e hx)
 .obtain⟨sl1,e1⟩:=ub.slot b o e n hb hx;obtain⟨sl2,e2⟩:=x.un.slot b _ e1 (ub.free b o e n hx) (by rw[fst];exact J0 _ hb) (hx0 b o e hx);exact⟨sl2,e2⟩
 .obtain⟨o1,e1⟩:=ub.there b o e hx;exact x.un.free b o1 e1 (ub.free b o e n hx) (hx0 b o e hx)
 .obtain⟨o1,e1⟩:=ub.there b o e hx;exact x.un.there b o1 e1 (hx0 b o e hx)
 .exact x.un.tups b xs (ub.tups b xs e)
 .exact x.un.frzs b o u (ub.frzs b o u e)
 .obtain⟨m1,e1⟩:=ub.tbls b ps e;obtain⟨m2,e2⟩:=x.un.tbls b _ e1;exact⟨m1++m2,by rw[e2,Array.append_assoc]⟩
 .obtain⟨u,ru,lk⟩:=hl i y v hi hv hvis;refine⟨u,ru,?_⟩;rcases lk with lk|⟨_,c,hc,_⟩
  .exact .inl lk
  .rw[hcl y]at hc;cases hc
 .have e:X.env.cells.lookup y=some c:=e;rw[hcl y]at e;cases e
 .have e:X.env.cells.lookup y=some c:=e;rw[hcl y]at e;cases e
 .have old:p∈X.pn++(p0++pins)->s'.heap.get? p.1=some p.2/\H' p.1=none/\p.1≠X.env.locals/\p.1∉X.fs/\∀v,p.2.data ≠ .cell v:=fun hp=>by
   obtain⟨e,n,nl,nf,nc⟩:=I.pin p hp;have hc:p.1∉ch:=fun z=>(hch _ z).2.2 p hp rfl;have nfs:p.1∉g6 X.stack:=fun z=>by
    rw[fst]at z;rcases Kg.mp z with z|z
    .exact nl z
    .exact nf z
   exact⟨x.un.keep _ _ e n nfs hc,x.un.free _ _ e n hc,nl,nf,nc⟩
  have hp:p∈(X.pn++pe)++p0:=hp;rcases Kj.mp hp with hp|hp
  .rcases Kj.mp hp with hp|hp
   .exact old (Kz _ hp)
   .exact hpe p hp
  .exact old (KG _ (Kz _ hp))
noncomputable abbrev Du(X:Cx)(e:Value):Value->Shared->Prop:=notedBy (model X.prog X.w) (X.A.mark (some e)) X.env (cameBackBy (model X.prog X.w) X.A X.env X.xe)
theorem Dg{e:Value}(hst:X.stack=X.env::X.outer)(hfr:X.env.frame=some X.env.locals)(k:X.Ok)(hA:Acc X Eo):Acc (X.hd e pe (Du X e)) Eo:=by
 intro pins σ H s ch I hch ea cls dx H' B s' x hE;have fl:Heap.FlAny B (X.env::X.outer) ea cls dx s'.heap:=by rw[<-hst];exact x.fl
 show wpAny (model X.prog X.w) (X.A.mark (some e)) (noteFrame (.ref ea) X.env) _ _ s';refine d5 (by show X.A.frames=_;rw[k.frames,hst]) hfr hfr fl fun h2 held up=>?_;have held:Heap.HeldP B X.stack ea cls dx X.env.locals h2:=by rw[hst];exact held
 have x:zV X.prog X.w X.stack ch H s ea cls dx H' B s':=x;have x2:=x.move held.1 up held.any;refine j6 (s:={s' with heap:=h2}) held.1 held.2.1 held.2.2.1 held.2.2.2 fun h3 fl3 up3=>?_;refine hA pins σ H s ch (I.of_hd k) (fun b hb=>⟨(hch b hb).1,(hch b hb).2.1,fun p hp=>(hch b hb).2.2 p ?_⟩) ea cls dx H' B _ (x2.move fl3.1 up3 fl3) hE;show p∈(X.pn++pe)++pins;rcases Kj.mp hp with hp|hp
 .exact Kz _ (Kz _ hp)
 .exact KG _ hp
noncomputable def xA(oe:Obj)(cls:Value):Prop:=oe.cls=cls/\∃vs,oe.data = .fields vs/\(oe.dict=none->vs[2]?=some .none)
theorem uk{vs:Array Value}(hst:X.stack=X.env::X.outer)(hfr:X.env.frame=some X.env.locals)(x:zV X.prog X.w X.stack ch H s ea cls dx H' B s')(he:s'.heap.get? ea=some oe)(hd:oe.data = .fields vs):∀p∈[(ea,oe)],s'.heap.get? p.1=some p.2/\H' p.1=none/\p.1≠X.env.locals/\p.1∉X.fs/\∀v,p.2.data ≠ .cell v:=by
 intro p hp;obtain rfl:p=(ea,oe):=by simpa using hp
 have fst:g6 X.stack=X.env.locals::X.fs:=by rw[hst];unfold g6;rw[KC,hfr];rfl
 have nfs:ea∉g6 X.stack:=fun z=>by
  obtain⟨_,o,ho,hnf⟩:=x.fl.2.2.1.mem z;rw[he]at ho;cases ho;exact hnf vs hd
 refine⟨he,?_,fun z=>nfs (by rw[fst];exact z▸J8),fun z=>nfs (by rw[fst];exact J0 _ z),fun v z=>by rw[hd]at z;cases z⟩;cases hz:H' ea with
 |none=>rfl
 |some o =>
  have:=x.cov ea oe he nfs (.inl (by rw[hz];simp));rw[x.fl.2.1]at this;cases this
noncomputable def Hg(C:Addr)(tb:XS->List (Addr×Obj)->TS)(th:Addr->Obj->(Value->Shared->Prop)->TS):TS:=fun D σ H=>∀p0,tb (fun σ' cls dx H'=>cls = .ref C/\dx=none/\∀ea oe xe,th ea oe xe D σ' H') p0 D σ H
theorem D4{init:Option Value}{hpos:Pos}{suite:List Stmt}{b0:Stmt}{tb:XS->List (Addr×Obj)->TS}{th:Addr->Obj->(Value->Shared->Prop)->TS}(hst:X.stack=X.env::X.outer)(hfr:X.env.frame=some X.env.locals)(hcl:∀x,X.env.cells.lookup x=none)(hA:Acc X Eo)(hg:Gl X x)(hm:X.mg x=some (.ref C))(hx:iY X.base C init)(hb:∀E1 p0,sI (X.tr E1 p0) body (tb E1 p0))(hh:∀ea oe xe,xA oe (.ref C)->oe.dict=none->Acc (X.hd (.ref ea) [(ea,oe)] xe) Eo->sI (X.hd (.ref ea) [(ea,oe)] xe) (b0::suite) (th ea oe xe))(hdb:(x==("__debug__":Str))=false:=by decide):
  PS X (.Try body [.ExceptHandler (some (.Name x np)) none (b0::suite) hpos] [] [] pos) (Hg C tb th):=by
 intro pins s σ H D I h;refine wpAny_Try_except (KR (hb _ pins [] s σ H D I.to_tr (h pins)) (fun f s1 q=>?_) fun e s1 q=>?_)
 .cases f with
  |next =>
   obtain⟨σ',H',I',q⟩:=q;exact JV ⟨σ',H',by simpa using I'.of_tr,q⟩
  |brk=>obtain⟨σ',H',I',q⟩:=q;exact⟨σ',H',by simpa using I'.of_tr,q⟩
  |cont=>obtain⟨σ',H',I',q⟩:=q;exact⟨σ',H',by simpa using I'.of_tr,q⟩
  |ret v=>obtain⟨y,σ',H',I',r,q⟩:=q;exact⟨y,σ',H',by simpa using I'.of_tr,r,q⟩
 .obtain⟨pins2,σ2,H2,s2,ch,ea,cls,dx,H',B,rfl,I2,hch,xx,rfl,rfl,hth⟩:=q;have fl:Heap.FlAny B (X.env::X.outer) ea (.ref C) none s1.heap:=by rw[<-hst];exact xx.fl
  refine d5 (by rw[I.ok.frames,hst]) hfr hfr fl fun h2 held up=>?_;have held:Heap.HeldP B X.stack ea (.ref C) none X.env.locals h2:=by rw[hst];exact held
  have x2:=xx.move held.1 up held.any;refine ir (s:={s1 with heap:=h2}) held fun h3 fly up3=>?_;have x3:=x2.move fly.1 up3 fly.any;have I3:Inv (X.hd (.ref ea) [] (Du X (.ref ea))) pins σ2 H' {s1 with heap:=h3}:=iS hst hfr hcl I2 hch x3 (fun p hp=>nomatch hp);refine wpAny_handleBy_cons (codeAny_handlers_test ?_) (by intro q;cases q);refine iH (X:=X.hd (.ref ea) [] (Du X (.ref ea))) I3 hg hm ?_ hdb;obtain⟨N,nm,q,bs,hdct,sn,sub,ab,col,dd,k0,k1,k2,k3,k5,mN,hC,hN,hi⟩:=hx.keeps I3.bk;obtain⟨oe,vs,T,oT,ts,he,⟨hcls,_,_⟩,_⟩:=fly.2.2.2;refine wpAny_excMatches_sub_self hC he hcls (by decide) (codeAny_handlers_suite ?_);refine gf (s:={s1 with heap:=h3}) fly fun h4 fly4 up4=>?_;have x4:=x3.move fly4.1 up4 fly4.any;obtain⟨oe4,vs4,T4,oT4,ts4,he4,⟨hcls4,hdx4,hcx4⟩,hd4,_⟩:=fly4.2.2.2;have I4:Inv (X.hd (.ref ea) [(ea,oe4)] (Du X (.ref ea))) pins σ2 H' {s1 with heap:=h4}:=iS hst hfr hcl I2 hch x4 (uk hst hfr x4 he4 hd4);refine KR (hh ea oe4 (Du X (.ref ea)) ⟨hcls4,vs4,hd4,fun z=>hcx4 (hdx4.symm.trans z)⟩ hdx4 (Dg hst hfr I.ok hA) pins _ σ2 H' D I4 (hth _ _ _)) (fun f s5 q=>?_) fun _ _ y=>y;cases f with
  |next=>obtain⟨σ',H',I',q⟩:=q;exact⟨σ',H',I'.of_hd I.ok,q⟩
  |brk=>obtain⟨σ',H',I',q⟩:=q;exact⟨σ',H',I'.of_hd I.ok,q⟩
  |cont=>obtain⟨σ',H',I',q⟩:=q;exact⟨σ',H',I'.of_hd I.ok,q⟩
  |ret v=>obtain⟨y,σ',H',I',r,q⟩:=q;exact⟨y,σ',H',I'.of_hd I.ok,r,q⟩
end L2
namespace PySem
open Sem (wp)
open Builtin.ObjectAttr
section
variable{prog:Program}{w:World}{A:Around}{E:Value->Shared->Prop}{h:Heap}{g:Array GenState}{d:Drawn}{t:Nat}{os:OsState}
variable{nm q:Str}{C N x:Addr}{bs bm:List Value}{sn:List Str}{sub:List Value}{ab:Bool}{col:Option Bool}{dd:Option Addr}{k0 k1 k2 k3 k5:Option Value}{B newId sa owner:String}
 {mN:Str->Option Value}{name:Str}{v:Value}{o:Obj}
theorem xR{tk:Tok}{Q:Fin->Shared->Prop}(SF:StoreFacts B bm sa owner)(hC:h.get? C=some (excClassObj nm q C N bs bm true sn sub ab col dd k0 k1 k2 k3 k5 newId))(hn:h.Ns N mN)(hna:mN name=none)(hB:typeLookup (.type B) name=pure none)(hx:h.get? x=some o)(hc:o.cls = .ref C)(hnc:∀c,o.data ≠ .cls c)(hdn:o.dict=none)(hq:∀h' tk',h'.get? x=some {o with dict:=some h.objs.size}->h'.Ns1 h.objs.size (fun y=>if y=name then some v else none)->(∀b ob,b≠x->h.get? b=some ob->h'.get? b=some ob)->Q (.done (.ret .none)) ⟨h',g,d,tk',os⟩):
  wpAny (model prog w) A (Builtin.«object.__setattr__» ⟨[.ref x,.str name tk,v],[]⟩) Q E ⟨h,g,d,t,os⟩:=by
 have hpass:=SF.passes (.ref x);unfold Builtin.«object.__setattr__»;repeat (first|rw[refuse_eq]|(rw[refuseLoop_ref,hpass])|(with_reducible refine KQ hx ?_;rw[hc])|with_reducible refine wpAny_mroOf_exc hC ?_|(with_reducible refine wpAny_typeLookup_exc hC hn SF.mro hB ?_;rw[hna])|wp_step)
 rw[hdn,JU (by simp[typeHasDict])];split
 .rename_i hcd;cases hcd
 split
 .rename_i c hcd;exact absurd hcd (hnc c)
 .have hx₁:(h.push {cls:=.type "dict",data:=.dict #[]}).get? x=some o:=JZ _ hx;have hxs:x≠h.objs.size:=Kv (Kc hx);refine JR (wpAny_alloc' ?_);refine JR (wpAny_update' hx₁ ?_);refine JV ?_;have hgd:((h.push {cls:=.type "dict",data:=.dict #[]}).update x fun o=>{cls:=o.cls,dict:=some h.objs.size,data:=o.data,slots:=o.slots}).get? h.objs.size
    = some {cls:=.type "dict",data:=.dict #[]} :=
   (Heap.get?_update_ne _ _ _ _ hxs.symm).trans (Heap.get?_push_at rfl rfl)
  have hnd:((h.push {cls:=.type "dict",data:=.dict #[]}).update x fun o=>{cls:=o.cls,dict:=some h.objs.size,data:=o.data,slots:=o.slots}).Ns h.objs.size (fun _=>none) :=
   ⟨_,#[],_,hgd,rfl,fun e he=>absurd he (by simp),fun _=>rfl⟩
  show wpAny _ _ (storeInDict h.objs.size (.str name tk) name v) _ _ _;unfold storeInDict newKeyGuard;refine JR (JV (JR (wpAny_nsSet1 (Heap.Ns1.of_empty hnd) fun h' hn' hs=>?_)));obtain⟨oD,esD,epD,hoD,hdD,hcD⟩:=hn'.count (Within.cons name v Within.nil);refine JR (wpAny_lookBehind hoD (by rw[hdD];exact pastItsLine_dict (KH hcD (by rw[JS,J7,sizeLine_eq];lia))) ?_)
  wp_walk
  have hx':h'.get? x=some {cls:=o.cls,dict:=some h.objs.size,data:=o.data,slots:=o.slots}:=by
   refine(hs.2 x hxs).trans (KA _ hx₁ ?_);have hfr:=(Heap.get?_some_iff.mp hx).2;obtain⟨oc,od,odt,osl⟩:=o;cases odt<;>first|rfl|exact hfr
  refine hq h' _ hx' hn' fun b ob hbx hb=>?_;exact(hs.2 b (Kv (Kc hb))).trans ((Heap.get?_update_ne _ _ _ _ hbx).trans (JZ _ hb))
theorem z9{Q:Unit->Shared->Prop}(SF:StoreFacts B bm sa owner)(hC:h.get? C=some (excClassObj nm q C N bs bm true sn sub ab col dd k0 k1 k2 k3 k5 newId))(hn:h.Ns N mN)(hns:mN "__setattr__"=none)(hna:mN name=none)(hB:typeLookup (.type B) name=pure none)(hx:h.get? x=some o)(hc:o.cls = .ref C)(hnc:∀c,o.data ≠ .cls c)(hdn:o.dict=none)(hq:∀h' tk',h'.get? x=some {o with dict:=some h.objs.size}->h'.Ns1 h.objs.size (fun y=>if y=name then some v else none)->(∀b ob,b≠x->h.get? b=some ob->h'.get? b=some ob)->Q () ⟨h',g,d,tk',os⟩):
  wpAny (model prog w) A (setAttr (.ref x) name v) Q E ⟨h,g,d,t,os⟩:=by
 have f3:=SF.slot.bind (.ref x);unfold setAttr callSpecial? specialOf;repeat (any_goals (first|assumption|(with_reducible refine KQ hx ?_;rw[hc])|(with_reducible refine wpAny_typeLookup_exc hC hn SF.mro SF.slot.lookup ?_;rw[hns])|wp_step))
 refine codeAny_call_builtin SF.slot.plain SF.entry (wpAny_check_sa SF hC hx hc (xR SF hC hn hna hB hx hc hnc hdn fun h' tk' a b c=>?_));repeat (any_goals (first|assumption|wp_step))
 exact hq h' tk' a b c
end
end PySem
namespace L2
open PySem PySem.Spec PyProof.Rows
variable{h h' h2 B:Heap}{k t' i j n ep kk:Nat}{v u pm cdv oc vl vu cls:Value}{a b it C sl L ea:Addr}{x name m qual:Str}{y:V}{E Q Qf:Value->Shared->Prop}{s s':Shared}{xs ys:List V}{us its its' args bm sub:List Value}{H H' H1:Hp}{o od oe:Obj}{P:Program}{e c tg iter value elt:Expr}{X:Cx}{pins p0 pe:List (Addr×Obj)}{g':Array GenState}{d':Drawn}{ch fp:List Addr}{M:Model}{pos pos' p tpos apos p2 cpos np:Pos}{ta te to tv td:TE}{op:CmpOp}{st:Stmt}{es:Array DictEntry}{g:TG}{body:List Stmt}{R:Result->Shared->Prop}{lo hi:Option Int}{pl:Sem Bool}{wi:TI}{D:Ends}{f:Value->Value->Sem Value}{r:V->Option Int->Option Int->Hp->VK->Prop}{dx an dd:Option Addr}{mA mN:Str->Option Value}{kw:List (Str×Value)}{fd:FuncData}{ps sn:List Str}{CX:G6}{sp:Sp}{kindOf:Str->Option NameKind}{sc scope:Scope}{osl:Array (Option Value)}{T newId:String}{items:Array Value}{cells:List (Str×Addr)}{ifs elts:List Expr}{tt:TT}{Qd:Hp->Prop}{kvs:List (KD×V)}{en:DictEntry}{use:Option (Value->Sem Unit)}{Eo:XS}{col:Option Bool}{k0 k1 k2 k3 k5:Option Value}
theorem o7:typeLookup (.type "Exception") "line"=pure none:=by rw[typeLookup_type,builtinLookup_eq_fast];kernel_rfl
end L2
namespace PySem
open Sem (wp)
section
variable{prog:Program}{w:World}{A:Around}{E:Value->Shared->Prop}{h:Heap}{g:Array GenState}{d:Drawn}{t:Nat}{os:OsState}{a dx:Addr}{o:Obj}{v:Value}
 {nm q:Str}{C N:Addr}{bs bm:List Value}{sn:List Str}{sub:List Value}{ab:Bool}{col:Option Bool}{dd:Option Addr}{k0 k1 k2 k3 k5:Option Value}{B newId:String}{mN mA:Str->Option Value}{name:Str}
theorem An{tk:Tok}{Q:Fin->Shared->Prop}(FB:ExcAttrBase B bm)(hC:h.get? C=some (excClassObj nm q C N bs bm true sn sub ab col dd k0 k1 k2 k3 k5 newId))(hN:h.Ns N mN)(hna:mN name=none)(hB:typeLookup (.type B) name=pure none)(hx:h.get? a=some o)(hc:o.cls = .ref C)(hnc:∀c,o.data ≠ .cls c)(hdx:o.dict=some dx)(hns:h.Ns1 dx mA)(hv:mA name=some v)(hq:Q (.done (.ret v)) ⟨h,g,d,t,os⟩):
  wpAny (model prog w) A (Builtin.«object.__getattribute__» ⟨[.ref a,.str name tk],[]⟩) Q E ⟨h,g,d,t,os⟩:=by
 unfold Builtin.«object.__getattribute__»;repeat (any_goals (first|assumption|(with_reducible refine KQ hx ?_;rw[hc])|(with_reducible refine wpAny_typeLookup_exc hC hN FB.mro hB ?_;rw[hna])|wp_step))
 split
 .rename_i c hcd;exact absurd hcd (hnc c)
 unfold instanceDict;repeat (first|(with_reducible refine KQ hx ?_;rw[hc])|with_reducible refine KQ hC ?_|wp_step)
 rw[hdx];repeat (first|(with_reducible refine wpAny_nsGet hns.ns ?_;rw[hv])|wp_step)
 exact hq
theorem pG{M:Model}{nameV:Value}{Q:Unit->Shared->Prop}(FB:ExcAttrBase B bm)(hC:h.get? C=some (excClassObj nm q C N bs bm true sn sub ab col dd k0 k1 k2 k3 k5 newId))(hx:h.get? a=some o)(hc:o.cls = .ref C)(hq:Q () ⟨h,g,d,t,os⟩):wpAny M A (checkBuiltinCall "BaseException.__getattribute__" ⟨[.ref a,nameV],[]⟩) Q E ⟨h,g,d,t,os⟩:=by
 have hk:builtinKind "BaseException.__getattribute__"=some .slot:=by decide +kernel
 have hsplit:splitId "BaseException.__getattribute__"=some ("BaseException","__getattribute__"):=by decide +kernel
 have hcB:(Value.ref C::bm).contains (.type "BaseException")=true:=by rw[List.contains_cons,FB.hasBase];rfl
 have ha:=F.args_bexc_ga (.ref a) nameV;simp only[checkBuiltinCall,hk,hsplit];refine JR ?_
 .unfold isInstance;repeat (first|(with_reducible refine KQ hx ?_;rw[hc])|(with_reducible refine wpAny_isSubtype_exc hC ?_;rw[hcB])|wp_step)
  exact hq
theorem B2{expr:Bool}{Q:Value->Shared->Prop}(FB:ExcAttrBase B bm)(hC:h.get? C=some (excClassObj nm q C N bs bm true sn sub ab col dd k0 k1 k2 k3 k5 newId))(hN:h.Ns N mN)(hng:mN "__getattribute__"=none)(hnh:mN "__getattr__"=none)(hna:mN name=none)(hB:typeLookup (.type B) name=pure none)(hx:h.get? a=some o)(hc:o.cls = .ref C)(hnc:∀c,o.data ≠ .cls c)(hdx:o.dict=some dx)(hns:h.Ns1 dx mA)(hv:mA name=some v)(hh:handedOut v=pure v)(hq:Q v ⟨h,g,d,t+1,os⟩):
  wpAny (model prog w) A (getAttr (.ref a) name expr) Q E ⟨h,g,d,t,os⟩:=by
 have f3:=FB.ga.bind (.ref a);have hx0:(expr&&onTheHeap (Value.builtin "BaseException.__getattribute__"))=false:=by cases expr<;>rfl
 have hx2:(Value.builtin "BaseException.__getattribute__"==Value.builtin "object.__getattribute__")=false:=by decide +kernel
 have hx1:(onTheHeap (Value.ref C)&&Value.builtin "BaseException.__getattribute__"==Value.builtin "object.__getattribute__")=false:=by rw[hx2];rfl
 unfold getAttr getAttrBy;repeat (any_goals (first|assumption|(with_reducible refine KQ hx ?_;rw[hc])|(with_reducible refine wpAny_typeLookup_exc hC hN FB.mro FB.ga.lookup ?_;rw[hng])|(with_reducible refine wpAny_typeLookup_exc hC hN FB.mro FB.noGetattr ?_;rw[hnh])|wp_step))
 refine codeAny_call_builtin FB.ga.plain F.entry_bexc_ga (pG FB hC hx hc (An FB hC hN hna hB hx hc hnc hdx hns hv ?_));repeat (any_goals (first|assumption|wp_step))
end
end PySem
namespace L2
open PySem PySem.Spec PyProof.Rows
variable{h h' h2 B:Heap}{k t' i j n ep kk:Nat}{v u pm cdv oc vl vu cls:Value}{a b it C sl L ea:Addr}{x name m qual:Str}{y:V}{E Q Qf:Value->Shared->Prop}{s s':Shared}{xs ys:List V}{us its its' args bm sub:List Value}{H H' H1:Hp}{o od oe:Obj}{P:Program}{e c tg iter value elt:Expr}{X:Cx}{pins p0 pe:List (Addr×Obj)}{g':Array GenState}{d':Drawn}{ch fp:List Addr}{M:Model}{pos pos' p tpos apos p2 cpos np:Pos}{ta te to tv td:TE}{op:CmpOp}{st:Stmt}{es:Array DictEntry}{g:TG}{body:List Stmt}{R:Result->Shared->Prop}{lo hi:Option Int}{pl:Sem Bool}{wi:TI}{D:Ends}{f:Value->Value->Sem Value}{r:V->Option Int->Option Int->Hp->VK->Prop}{dx an dd:Option Addr}{mA mN:Str->Option Value}{kw:List (Str×Value)}{fd:FuncData}{ps sn:List Str}{CX:G6}{sp:Sp}{kindOf:Str->Option NameKind}{sc scope:Scope}{osl:Array (Option Value)}{T newId:String}{items:Array Value}{cells:List (Str×Addr)}{ifs elts:List Expr}{tt:TT}{Qd:Hp->Prop}{kvs:List (KD×V)}{en:DictEntry}{use:Option (Value->Sem Unit)}{Eo:XS}{col:Option Bool}{k0 k1 k2 k3 k5:Option Value}
structure gV (h:Heap) (C f:Addr):Prop where
 ex:∃N nm q bs sn sub ab col dd k0 k1 k2 k3 k5 mN,h.get? C=some (excClassObj nm q C N bs A0 true sn sub ab col dd k0 k1 k2 k3 k5 "Exception.__new__")/\h.Ns N mN/\mN "__init__"=some (.ref f)/\mN "__setattr__"=none/\mN "line"=none/\mN "__getattribute__"=none/\mN "__getattr__"=none
theorem gV.keeps{f:Addr}(x:gV h C f)(k:∀b o,h.get? b=some o->h'.get? b=some o):gV h' C f:=by
 obtain⟨N,nm,q,bs,sn,sub,ab,col,dd,k0,k1,k2,k3,k5,mN,hC,hN,r⟩:=x.ex;exact⟨N,nm,q,bs,sn,sub,ab,col,dd,k0,k1,k2,k3,k5,mN,k _ _ hC,hN.keeps k,r⟩
theorem gV.obj{f:Addr}(x:gV h C f):iY h C (some (.ref f)):=by
 obtain⟨N,nm,q,bs,sn,sub,ab,col,dd,k0,k1,k2,k3,k5,mN,hC,hN,r⟩:=x.ex;exact⟨N,nm,q,bs,true,sn,sub,ab,col,dd,k0,k1,k2,k3,k5,mN,hC,hN,r.1⟩
theorem BH{w:World}{K:Lq}{A:Around}{f e:Addr}{p1 p3 p4:Pos}(F:Do K x qual st f fd)(S:fR ["self","line"] ["self","line"] (aE st))(hbd:cI st=[.Assign [.Attribute (.Name "self" p1) "line" p2] (.Name "line" p3) p4])(hl1:(aE st).names.lookup ("self":Str)=some .local)(hl2:(aE st).names.lookup ("line":Str)=some .local)(hb:Binds K fd ["self","line"] [])(KX:K.In s.heap)(lim:s.heap.NoLimit)(hdep:A.depth<recursionLimit)(hx:gV s.heap C f)(he:s.heap.get? e=some oe)(hc:oe.cls = .ref C)(hnc:∀c,oe.data ≠ .cls c)(hdn:oe.dict=none)(hq:∀h2 tk d,(∀b o,b≠e->s.heap.get? b=some o->h2.get? b=some o)->s.heap.get? d=none->d≠e->h2.get? e=some {oe with dict:=some d}->h2.Ns1 d (fun y=>if y="line" then some u else none)->R (.ok (.ret .none)) {s with heap:=h2,toks:=tk}):
  codeAny (model P w) A (.call (.ref f) ⟨[.ref e,u],[]⟩) R s:=by
 obtain⟨oc,od,kV,doc,pm,an,cdv,ct,osl,rfl,lk,hcd⟩:=F.ex;have hkind:∀y∈(["self","line"]:List Str).zip [Value.ref e,u],(aE st).names.lookup y.1=some .local\/((aE st).names.lookup y.1=some .cell/\((cellsFrom (s.heap.objs.size+1) (aE st).names []).lookup y.1).isSome=true):=fun⟨n,v⟩ hy=>by
  rcases S.par n (List.of_mem_zip hy).1 with q|q
  .exact .inl q
  .exact .inr ⟨q,PySem.W.cellsFrom_some _ _ _ (.inl q)⟩
 refine codeAny_call_function hdep (KX _ _ lk) rfl S.co S.gen rfl (PySem.W.codeRec_of KX hcd) (hb s [.ref e,u] KX rfl _ _ _ _ ?_);refine wpAny_newFunctionEnv_cells S.kind hkind fun env he2 s1 xx=>?_;subst he2;refine⟨lim.keeps xx.toInCall.keep,codeAny_func ?_⟩;obtain⟨h1,tk1,rfl,hk⟩:=xx.done;have ns:=xx.toInCall.ns;have h1x:=hx.keeps hk;have m1:bindL (envOfC qual (aE st) s.heap.objs.size f cdv).kindOf ((["self","line"]:List Str).zip [Value.ref e,u]) (fun _=>none) "self"=some (.ref e):=lP (i:=0) S.nd rfl rfl hl1;have m2:bindL (envOfC qual (aE st) s.heap.objs.size f cdv).kindOf ((["self","line"]:List Str).zip [Value.ref e,u]) (fun _=>none) "line"=some u:=lP (i:=1) S.nd rfl rfl hl2;show wpAny (model P w) _ (execs (cI st) _) _ _ _;rw[hbd];refine wpAny_execs_cons ?_;refine plainObj_wpAny_Assign_Attribute (wpAny_Name (wpAny_loadName_local S.kind hl2 ns m2 (wpAny_Name (wpAny_loadName_local S.kind hl1 ns m1 ?_) (by decide))) (by decide)) rfl;obtain⟨N,nm,q,bs,sn,sub,ab,col,dd,k0,k1,k2,k3,k5,mN,hC,hN,_,g1,g2,_⟩:=h1x.ex;refine z9 (x:=e) PySem.F.store_Exception hC hN g1 g2 o7 (hk _ _ he) hc hnc hdn fun h2 tk2 a1 a2 a3=>?_;have eh:=Kc (hk _ _ he);have fin:=hq h2 tk2 h1.objs.size (fun b o hb e1=>a3 b o hb (hk _ _ e1)) (by
  cases hz:s.heap.get? h1.objs.size with
  |none=>rfl
  |some o=>exact absurd (Kc (hk _ _ hz)) (KL _)) (Nat.ne_of_gt eh) a1 a2
 show wpAny _ _ (execs [] _) _ _ _;exact JV fin
theorem AV{w:World}{K:Lq}{A:Around}{f:Addr}{p1 p3 p4:Pos}(F:Do K x qual st f fd)(S:fR ["self","line"] ["self","line"] (aE st))(hbd:cI st=[.Assign [.Attribute (.Name "self" p1) "line" p2] (.Name "line" p3) p4])(hl1:(aE st).names.lookup ("self":Str)=some .local)(hl2:(aE st).names.lookup ("line":Str)=some .local)(hb:Binds K fd ["self","line"] [])(hfn:PySem.W.isFn K (.ref f)=true)(KX:K.In s.heap)(lim:s.heap.NoLimit)(hdep:A.depth+2<recursionLimit)(hx:gV s.heap C f)(hq:∀h2 tk d e t,(∀b o,s.heap.get? b=some o->h2.get? b=some o)->s.heap.get? d=none->s.heap.get? e=none->d≠e->h2.get? e=some {cls:=.ref C,dict:=some d,data:=.fields #[.ref t,.none,.none,.none,.bool false,.none]}->h2.Ns1 d (fun y=>if y="line" then some u else none)->Q (.ref e) {s with heap:=h2,toks:=tk}):
  wpAny (model P w) A (call (.ref C) [u]) Q E s:=by
 obtain⟨oc,od,kV,doc,pm,an,cdv,ct,osl,efd,lk,hcd⟩:=id F.ex;obtain⟨N,nm,q,bs,sn,sub,ab,col,dd,k0,k1,k2,k3,k5,mN,hC,hN,hi,_⟩:=id hx.ex;obtain⟨h,g,dr,t,os⟩:=s;have hfI:h.get? f=some ⟨oc,od,.func fd,osl⟩:=KX _ _ lk;have hoc:oc = .type "function":=by
  have z:=beq_iff_eq.mp hfn;have z:(K.lookup f).map (·.cls)=some (.type "function"):=z;rw[lk]at z;exact Ku z
 refine wpAny_call_exc_init (hrest:=by rw[JS,J7,sizeLine_eq];decide) PySem.F.excBase_Exception hC hN hi hfI hoc fun h' e m=>?_;obtain⟨tt,ht,htn,_⟩:=m.there;refine wpAny_call (BH (C:=C) F S hbd hl1 hl2 hb (KX.keeps m.keeps) (lim.keeps m.keeps) (by rw[qW];lia) (hx.keeps m.keeps) ht rfl (fun c z=>by cases z) rfl fun h2 tk d a1 a2 a3 a4 a5=>?_);refine⟨rfl,?_⟩;refine hq h2 tk d e tt (fun b o e1=>a1 b o (fun z=>by subst z;rw[m.new]at e1;cases e1) (m.keeps _ _ e1)) ?_ m.new a3 a4 a5;cases hz:h.get? d with
 |none=>rfl
 |some o=>have:=m.keeps _ _ hz;rw[a2]at this;cases this
structure tG (K:Lq) (mg:Str->Option Value) (x:Str) (C:Addr) (st:Stmt):Prop where
 bound:mg x=some (.ref C)
 kp:PySem.W.keepIn K (.ref C)=true
 ex:∃f fd qual p1 p2 p3 p4,(∀h:Heap,K.In h->gV h C f)/\Do K "__init__" qual st f fd/\fR ["self","line"] ["self","line"] (aE st)/\cI st=[.Assign [.Attribute (.Name "self" p1) "line" p2] (.Name "line" p3) p4]/\(aE st).names.lookup ("self":Str)=some .local/\(aE st).names.lookup ("line":Str)=some .local/\Binds K fd ["self","line"] []/\PySem.W.isFn K (.ref f)=true
structure Dm (h h2:Heap) (C e d:Addr) (vs:Array Value) (u:Value):Prop where
 keeps:∀b o,h.get? b=some o->h2.get? b=some o
 newd:h.get? d=none
 newe:h.get? e=none
 ne:d≠e
 obj:h2.get? e=some {cls:=.ref C,dict:=some d,data:=.fields vs}
 tb:vs[1]?=some .none
 ns:h2.Ns1 d (fun y=>if y="line" then some u else none)
theorem Acc.line{E:XS}(h:Acc X E){σ:St}{e d:Addr}{vs:Array Value}{tk:Nat}(I:Inv X pins σ H s)(m:Dm s.heap h2 C e d vs u)(ry:RelV y u)(hE:E σ (.ref C) (some d) (upd H d (.xd [("line",y)]))):
  X.xe (.ref e) {s with heap:=h2,toks:=tk}:=by
 have free:∀b∈g6 X.stack,H b=none:=I.stkFree;have hdn:H d=none:=by
  cases hz:H d with
  |none=>rfl
  |some o=>obtain⟨ob,q⟩:=I.hok.there hz;rw[m.newd]at q;cases q
 have hen:H e=none:=by
  cases hz:H e with
  |none=>rfl
  |some o=>obtain⟨ob,q⟩:=I.hok.there hz;rw[m.newe]at q;cases q
 have fr0:∀b∈g6 X.stack,∃o,s.heap.get? b=some o:=fun b hb=>let ⟨_,o,ho,_⟩:=I.stack.mem hb;⟨o,ho⟩;have dfr:d∉g6 X.stack:=fun z=>by obtain⟨o,ho⟩:=fr0 d z;rw[m.newd]at ho;cases ho
 let B:Heap:=PySem.W.hideAll h2 (e::g6 X.stack);have hB:∀b o,B.get? b=some o->h2.get? b=some o:=fun b o q=>PySem.W.of_hideAll _ q;have HB:∀b o,h2.get? b=some o->b≠e->b∉g6 X.stack->B.get? b=some o:=fun b o q n1 n=>PySem.W.hideAll_get _ q (by
  intro z;rcases Kg.mp z with z|z
  .exact n1 z
  .exact n z)
 have same:ar H (upd H d (.xd [("line",y)])):=fun b o q=>by rw[ai (aH q hdn)];exact q
 refine h pins σ H s [] I (by simp) e (.ref C) (some d) (upd H d (.xd [("line",y)])) B _ ⟨rfl,I.bare,⟨fun b o q _ _ _=>m.keeps b o q,fun b o q _ _ _=>⟨o.slots,m.keeps b o q⟩,fun b o q n _=>?_,fun b o q _=>⟨o,m.keeps b o q⟩,fun b xs q=>same _ _ q,fun b o u q=>same _ _ q,fun b ps q=>⟨#[],by rw[same _ _ q];simp⟩⟩,?_,⟨fun b o q=>hB b o q,Lp _ (by simp),?_,.inr ⟨_,vs,m.obj,rfl,rfl,rfl,m.tb,fun z=>by cases z⟩⟩,fun b o q n c=>?_,fun b hb=>?_⟩ hE
 .rw[ai (fun z=>by subst z;rw[m.newd]at q;cases q)];exact n
 .intro b o q;by_cases hb:b=d
  .subst hb;rw[af]at q;cases q;refine⟨_,m.ns,fun g=>?_⟩;by_cases hg:g="line"
   .subst hg;rw[JX rfl];exact ry
   .rw[JU hg];have:List.lookup g [(("line":Str),y)]=none:=by
     rw[K2,KP.mpr hg];rfl
    rw[this];exact True.intro
  .rw[ai hb]at q;refine(I.hok b o q).stay (fun c v _ e1=>m.keeps c v e1) (fun c e1=>same _ _ e1) (fun c xs e1=>same _ _ e1) fun c ob xs e1=>same _ _ e1
 .have fr:=I.stack;have up:∀(l:List Env),(∀b∈g6 l,b∈g6 X.stack)->s.heap.FunFrames X.base l->h2.FunFrames B l:=by
   intro l;induction l with
   |nil=>intro _ _;trivial
   |cons env r ih =>
    intro hs hl;obtain⟨hk,⟨L,o,hf,hn,ho,hd⟩,hr⟩:=hl;have hL:L∈g6 X.stack:=hs L (by unfold g6;rw[KC,hf];exact J8);exact⟨hk,⟨L,o,hf,Lp _ (J0 _ hL),m.keeps _ _ ho,hd⟩,ih (fun b hb=>hs b (by unfold g6;rw[KC,hf];exact J0 _ hb)) hr⟩
  exact up X.stack (fun _ hb=>hb) fr
 .refine HB b o q (fun z=>?_) n;subst z;rcases c with c|⟨_,o0,c⟩
  .rw[ai (Ne.symm m.ne)]at c;exact c hen
  .rw[m.newe]at c;cases c
 .rw[ai (fun z=>by subst z;exact dfr hb)];exact free b hb
theorem qx{A:Around}{env:Env}{x:Sem Value}{Q:Flow->Shared->Prop}(hh:A.handled=none)(h:wpAny M A x (fun v s₁=>∃e d t,v = .ref e/\(∃f,gV s₁.heap C f)/\s₁.heap.get? e=some {cls:=.ref C,dict:=some d,data:=.fields #[.ref t,.none,.none,.none,.bool false,.none]}/\E (.ref e) s₁) E s):
  wpAny M A (raiseStmt env (some x) none) Q E s:=by
 have hcB:∀C:Addr,(Value.ref C::A0).contains (.type "BaseException")=true:=fun C=>by rw[List.contains_cons,show A0.contains (.type "BaseException")=true by decide,Bool.or_true]
 unfold raiseStmt;refine JR (KR h (fun v s₁ h₁=>?_) fun _ _ x=>x);obtain⟨e,d,t,rfl,⟨f,hx⟩,he,hE⟩:=h₁;obtain⟨N,nm,q,bs,sn,sub,ab,col,dd,k0,k1,k2,k3,k5,mN,hC,hN,r⟩:=hx.ex;obtain⟨hp,g,dr,tk,os⟩:=s₁;repeat (first|with_reducible refine KQ he ?_|with_reducible refine KQ hC ?_|(with_reducible refine wpAny_isSubtype_exc hC ?_;rw[hcB])|wp_step)
 exact wpAny_raiseNew_none hh hE
theorem tu{σ:St}{W:V->Hp->Prop}(L:tG X.K X.mg x C st)(hdep:X.A.depth+2<recursionLimit)(I:Inv X pins σ H s)(hg:Gl X x)(he:PE X e te)(h:te σ H W)(hq:∀s1 H1 y u h2 tk ea d t,Inv X pins σ H1 s1->RelV y u->W y H1->Dm s1.heap h2 C ea d #[.ref t,.none,.none,.none,.bool false,.none] u->(∃f,gV h2 C f)->Q (.ref ea) {s1 with heap:=h2,toks:=tk})(hdb:(x==("__debug__":Str))=false:=by decide)(hse:starEach [e] X.env=(false,eval e X.env)::starEach [] X.env:=by rfl):
  wpAny (model X.prog X.w) X.A (eval (.Call (.Name x np) [e] [] cpos) X.env) Q X.xe s:=by
 obtain⟨f,fd,qual,p1,p2,p3,p4,hx,F,S,hbd,hl1,hl2,hb,hfn⟩:=L.ex;refine wpAny_Call_Name_kw (iH I hg L.bound ?_ hdb);refine PySem.W.callWith_K (h₀:=X.base) I.ok.mod.kin L.kp ?_ hse rfl;rw[hse];refine Calls.spliced_cons (cO (he pins s σ H _ I h) fun u s1 ⟨y,H1,I1,ry,q⟩=>Calls.spliced_nil ⟨I1.kIn,?_⟩);refine AV F S hbd hl1 hl2 hb hfn I1.kIn I1.nolimit hdep (hx _ I1.kIn) fun h2 tk d ea t a1 a2 a3 a4 a5 a6=>?_;exact hq s1 H1 y u h2 tk ea d t I1 ry q ⟨a1,a2,a3,a4,a5,rfl,a6⟩ ⟨f,(hx _ I1.kIn).keeps a1⟩
noncomputable def ua(E:XS)(C:Addr)(te:TE):TS:=fun _ σ H=>te σ H fun y H1=>∀d,H1 d=none->E σ (.ref C) (some d) (upd H1 d (.xd [("line",y)]))
theorem Ag{E:XS}(L:tG X.K X.mg x C st)(hdep:X.A.depth+2<recursionLimit)(hc:X.calm=true)(hA:Acc X E)(hg:Gl X x)(he:PE X e te)(hdb:(x==("__debug__":Str))=false:=by decide)(hse:starEach [e] X.env=(false,eval e X.env)::starEach [] X.env:=by rfl):
  PS X (.Raise (some (.Call (.Name x np) [e] [] cpos)) none pos) (ua E C te):=by
 intro pins s σ H D I h;rw[arm_exec_Raise];show wpAny (model X.prog X.w) X.A (do standAt pos;raiseStmt X.env (some (do let v <-eval (.Call (.Name x np) [e] [] cpos) X.env;standAt pos;pure v)) none) _ _ s;refine JR (wpAny_standAt (qx (C:=C) (I.ok.hd hc) (JR (tu L hdep I hg he h (fun s1 H1 y u h2 tk ea d t I1 ry q m hx=>JR (wpAny_standAt (JV ⟨ea,d,t,rfl,hx,m.obj,hA.line I1 m ry (q d ?_)⟩))) hdb hse))));cases hz:H1 d with
 |none=>rfl
 |some o=>obtain⟨ob,q⟩:=I1.hok.there hz;rw[m.newd]at q;cases q
theorem si:entryFor table "proto.unchain"=some Builtin.«proto.unchain»:=entryFor_of_tree (by kernel_rfl)
theorem pH{w:World}{A:Around}{env:Env}{e0:Addr}{x cc:Sem Value}{Q:Flow->Shared->Prop}(hh:A.handled=some (.ref e0))(hcc:∀(s:Shared) (Q:Value->Shared->Prop),Q .none s->wpAny (model P w) A cc Q E s)(h:wpAny (model P w) A x (fun v s₁=>∃e d t o0 vs0,v = .ref e/\(∃f,gV s₁.heap C f)/\e0≠e/\s₁.heap.get? e0=some o0/\o0.data = .fields vs0/\vs0[2]?=some .none/\s₁.heap.get? e=some {cls:=.ref C,dict:=some d,data:=.fields #[.ref t,.none,.none,.none,.bool false,.none]} /\
   ∀h',(∀b,b≠e->h'.get? b=s₁.heap.get? b)->h'.get? e=some {cls:=.ref C,dict:=some d,data:=.fields #[.ref t,.none,.ref e0,.none,.bool true,.none]}->E (.ref e) {s₁ with heap:=h'}) E s):
  wpAny (model P w) A (raiseStmt env (some x) (some cc)) Q E s:=by
 have hcB:∀C:Addr,(Value.ref C::A0).contains (.type "BaseException")=true:=fun C=>by rw[List.contains_cons,show A0.contains (.type "BaseException")=true by decide,Bool.or_true]
 unfold raiseStmt;refine JR (KR h (fun v s₁ h₁=>?_) fun _ _ x=>x);obtain⟨e,d,t,o0,vs0,rfl,⟨f,hx⟩,hne,h0,hd0,hv0,he,hE⟩:=h₁;obtain⟨N,nm,q,bs,sn,sub,ab,col,dd,k0,k1,k2,k3,k5,mN,hC,hN,r⟩:=hx.ex;have hCe:C≠e:=fun z=>by subst z;rw[hC]at he;cases he
 refine JR (KU (hcc _ _ (JR (JV ?_))));refine JR (KU ?_);unfold excFromValue;obtain⟨hp,g,dr,tk,os⟩:=s₁;repeat (first|with_reducible refine KQ he ?_|with_reducible refine KQ hC ?_|(with_reducible refine wpAny_isSubtype_exc hC ?_;rw[hcB])|wp_step)
 have he1:=KA (Obj.mapFields fun x=>x.setIfInBounds 3 Value.none) he rfl;have he2:=KA (Obj.mapFields fun x=>x.setIfInBounds 4 (Value.bool true)) he1 rfl;have ho:∀b,b≠e->((hp.update e (Obj.mapFields fun x=>x.setIfInBounds 3 Value.none)).update e (Obj.mapFields fun x=>x.setIfInBounds 4 (Value.bool true))).get? b=hp.get? b:=fun b hb=>(KF _ _ (Ne.symm hb)).trans (KF _ _ (Ne.symm hb));generalize hh3:(hp.update e (Obj.mapFields fun x=>x.setIfInBounds 3 Value.none)).update e (Obj.mapFields fun x=>x.setIfInBounds 4 (Value.bool true))=h3 at he2 ho;have he3:h3.get? e=some {cls:=.ref C,dict:=some d,data:=.fields #[.ref t,.none,.none,.none,.bool true,.none]}:=he2;have h03:h3.get? e0=some o0:=(ho e0 hne).trans h0;unfold raiseNew;refine JR (wpAny_handled ?_);rw[hh];dsimp only;rw[JX (show(Value.ref e0 != Value.ref e)=true by simpa using hne)];refine JR (KU (wpAny_runValue (codeAny_builtin si ?_)));unfold Builtin.«proto.unchain»;refine JR (KS h03 hd0 hv0 ?_);rw[JX (by decide)];refine JV ?_;show wpAny _ _ (updateField e 2 (Value.ref e0) >>= fun _=>throw (Value.ref e)) _ _ _;refine JR ?_;unfold updateField;refine JR (wpAny_load he3 ?_);dsimp only;rw[JX (show 2<(#[Value.ref t,Value.none,Value.none,Value.none,Value.bool true,Value.none]:Array Value).size from(by decide:(2:Nat)<6))];refine wpAny_update (f:=Obj.mapFields fun x=>x.setIfInBounds 2 (Value.ref e0)) he3 ?_;refine wpAny_throw (hE _ (fun b hb=>?_) ?_)
 .exact(KF _ _ (Ne.symm hb)).trans (ho b hb)
 .exact KA _ he3 rfl
theorem yb{E:XS}{kp:Pos}{xe:Value->Shared->Prop}(hX:xA oe cls)(hod:oe.dict=none)(L:tG X.K X.mg x C st)(hdep:X.A.depth+2<recursionLimit)(hnh:X.A.handled=none)(hA:Acc (X.hd (.ref ea) [(ea,oe)] xe) E)(hg:Gl X x)(he:PE (X.hd (.ref ea) [(ea,oe)] xe) e te)(hdb:(x==("__debug__":Str))=false:=by decide)(hse:starEach [e] X.env=(false,eval e X.env)::starEach [] X.env:=by rfl):
  PS (X.hd (.ref ea) [(ea,oe)] xe) (.Raise (some (.Call (.Name x np) [e] [] cpos)) (some (.Constant .none kk kp)) pos) (ua E C te):=by
 intro pins s σ H D I h;obtain⟨hcls,vs0,hd0,hv0⟩:=hX;rw[arm_exec_Raise];show wpAny (model X.prog X.w) (X.A.mark (some (.ref ea))) (do standAt pos;raiseStmt X.env (some (do let v <-eval (.Call (.Name x np) [e] [] cpos) X.env;standAt pos;pure v)) (some (do let v <-eval (.Constant .none kk kp) X.env;standAt pos;pure v))) _ _ s;refine JR (wpAny_standAt (pH (C:=C) (e0:=ea) rfl (fun s Q q=>JR (Constant_none (JR (wpAny_standAt (JV q))))) (JR (tu (X:=X.hd (.ref ea) [(ea,oe)] xe) L hdep I hg he h (fun s1 H1 y u h2 tk e2 d t I1 ry q m hx=>JR (wpAny_standAt (JV ?_))) hdb hse))));have hpin:=(I1.pin (ea,oe) (by show(ea,oe)∈(X.pn++[(ea,oe)])++pins;simp)).1;refine⟨e2,d,t,oe,vs0,rfl,hx,(fun z=>by rw[z,m.newe]at hpin;cases hpin),m.keeps _ _ hpin,hd0,hv0 hod,m.obj,fun h' a1 a2=>?_⟩;have mm:Dm s1.heap h' C e2 d #[.ref t,.none,.ref ea,.none,.bool true,.none] u:=by
  refine⟨fun b o q=>?_,m.newd,m.newe,m.ne,a2,rfl,?_⟩
  .have hb:=a1 b (fun z=>by subst z;rw[m.newe]at q;cases q);exact hb.trans (m.keeps b o q)
  .obtain⟨o',es,ep,e1,r⟩:=m.ns;exact⟨o',es,ep,(a1 d m.ne).trans e1,r⟩
 have hdn:H1 d=none:=by
  cases hz:H1 d with
  |none=>rfl
  |some o=>obtain⟨ob,q⟩:=I1.hok.there hz;rw[m.newd]at q;cases q
 have fin:=hA.line (tk:=tk) I1 mm ry (q d hdn);exact fin
theorem oH{A:Around}{g:Array GenState}{d:Drawn}{t:Nat}{os:OsState}{e C':Addr}{i i':Option Value}{Q:Bool->Shared->Prop}(hx:iY h C i)(hx':iY h C' i')(he:h.get? e=some oe)(hcls:oe.cls = .ref C)(hne:C'≠C)(hq:Q false ⟨h,g,d,t,os⟩):wpAny M A (excMatches (.ref e) (.ref C')) Q E ⟨h,g,d,t,os⟩:=by
 obtain⟨N,nm,q,bs,hdct,sn,sub,ab,col,dd,k0,k1,k2,k3,k5,mN,hC,_⟩:=hx;obtain⟨N',nm',q',bs',hdct',sn',sub',ab',col',dd',k0',k1',k2',k3',k5',mN',hC',_⟩:=hx';have hcB:(Value.ref C'::A0).contains (.type "BaseException")=true:=by rw[List.contains_cons,show A0.contains (.type "BaseException")=true by decide,Bool.or_true]
 have hcC:(Value.ref C::A0).contains (.ref C')=false:=by
  rw[List.contains_cons,show(Value.ref C'==Value.ref C)=false from KP.mpr fun z=>hne (Value.ref.inj z)];rfl
 have f:=tc_notTuple;unfold excMatches;repeat (first|(with_reducible refine KQ he ?_;rw[hcls])|with_reducible refine KQ hC' ?_|(with_reducible refine wpAny_isSubtype_exc hC' ?_;rw[hcB])|(with_reducible refine wpAny_isSubtype_exc hC ?_;rw[hcC])|wp_step)
 exact hq
theorem p5{σ:St}{A:Around}{Q:Unit->Shared->Prop}(I:Inv X pins σ H s)(hN:X.N.Nodup)(hi:X.N[i]?=some x)(hk:X.env.scope.names.lookup x=some .local)(hcl:∀x,X.env.cells.lookup x=none)(h:∀s',Inv X pins (σ.set i none) H s'->Q () s'):wpAny M A (do bindName X.env x .none;unbindBehindTheSuite X.env x pos) Q E s:=by
 obtain⟨m,hn,hl⟩:=id I.loc;have hcls:(X.env.scope.kind == .class||(X.env.scope.kind == .module&&X.env.locals != X.env.globals))=false:=by rw[I.ok.kind];rfl
 have hiσ:i<σ.length:=by rw[I.len];exact(JW.mp hi).1
 refine wpAny_nameGoes_keeps hk hn hcls fun h' v hn' hs=>?_;obtain⟨oL,_,_,hoL,_⟩:=id hn;refine h _ ⟨I.ok,I.os,I.bare,⟨fun b o e n hb hx=>?_,fun b o e n hb hx=>?_,I.base.free,fun b o e hx=>?_,I.base.tups,I.base.frzs,I.base.tbls⟩,⟨_,hn',fun j y v' e1 e2 e3=>?_⟩,fun y c e=>?_,I.free,I.freeC,fun p hp=>?_,fun b ob e=>?_,by simpa using I.len⟩
 .exact(hs.2 b (Kv (Ki (Kc e) I.ok.above))).trans (I.base.keep b o e n hb hx)
 .obtain⟨sl,e1⟩:=I.base.slot b o e n hb hx;exact⟨sl,(hs.2 b (Kv (Ki (Kc e) I.ok.above))).trans e1⟩
 .obtain⟨o',e1⟩:=I.base.there b o e hx;exact⟨o',(hs.2 b (Kv (Ki (Kc e) I.ok.above))).trans e1⟩
 .by_cases hj:j=i
  .subst hj;rw[Lc hiσ]at e2;cases e2
  .rw[Ll (Ne.symm hj)]at e2;obtain⟨u',r',q⟩:=hl j y v' e1 e2 e3;refine⟨u',r',?_⟩;rcases q with⟨k,e⟩|⟨k,c,e,z⟩
   .refine .inl ⟨k,?_⟩;have:y≠x:=fun e=>hj (nj hN e1 (e▸hi));simp[this,e]
   .rw[hcl y]at e;cases e
 .rw[hcl y]at e;cases e
 .obtain⟨e,n,ne,nf,d⟩:=I.pin p hp;exact⟨(hs.2 p.1 ne).trans e,n,ne,nf,d⟩
 .refine(I.hok b ob e).stay (fun c w' hc q=>(hs.2 c ?_).trans q) (fun _ q=>q) (fun _ _ q=>q) fun _ _ _ q=>q;rintro rfl;have hfree:=I.free;rcases hc with rfl|hc
  .rw[hfree]at e;cases e
  .rw[hfree]at hc;cases hc
theorem Inv.hd_xe{e:Value}{xe xe':Value->Shared->Prop}{σ:St}(I:Inv (X.hd e pe xe) pins σ H s):Inv (X.hd e pe xe') pins σ H s :=
 let k:=I.ok
 ⟨⟨k.mod,k.kind,k.glob,k.blt,k.above,k.inj,k.has,k.cab,k.hd,k.frames,k.stk,k.exf,k.bs,k.bsz,k.noex,k.exfs,k.funs,k.frf⟩,I.os,I.bare,I.base,I.loc,I.cell,I.free,I.freeC,I.pin,I.hok,I.len⟩
noncomputable def Fg(ta:TE)(ea d:Addr):TE:=fun σ H Q=>ta σ H fun y H1=>y = .ref ea/\∃fs k,H1 d=some (.xd fs)/\fs.lookup ("line":Str)=some (V.int k)/\Q (.int k) H1
theorem Ea{f d:Addr}{xe:Value->Shared->Prop}(hX:xA oe (.ref C))(hod:oe.dict=some d)(hx:gV X.base C f)(he:PE (X.hd (.ref ea) [(ea,oe)] xe) e ta)(hb:attributeBase e "line" X.env (eval e X.env)=eval e X.env:=by rfl):
  PE (X.hd (.ref ea) [(ea,oe)] xe) (.Attribute e "line" pos) (Fg ta ea d):=by
 intro pins s σ H Q I h;refine zR hb (cO (he pins s σ H _ I h) fun u s1 ⟨y,H1,I1,ry,ey,fs,k,hd,hl,q⟩=>?_);subst ey;obtain rfl:u=Value.ref ea:=ry;obtain⟨hcls,vs,hdat,_⟩:=hX;have hpin:=(I1.pin (ea,oe) (by show(ea,oe)∈(X.pn++[(ea,oe)])++pins;simp)).1;obtain⟨mA,hns,rel⟩:=I1.hok d _ hd;have rl:=rel "line";rw[hl]at rl;cases hm:mA "line" with
 |none=>rw[hm]at rl;exact rl.elim
 |some v =>
  rw[hm]at rl;have rl:RelV (.int k) v:=rl;obtain⟨t,rfl⟩:=rl;obtain⟨N,nm,q',bs,sn,sub,ab,col,dd,k0,k1,k2,k3,k5,mN,hC,hN,g1,g2,g3,g4,g5⟩:=(hx.keeps I1.bk).ex;obtain⟨hp,gs,dr,tk,os⟩:=s1;refine B2 PySem.F.attrBase_Exception hC hN g4 g5 g3 o7 hpin hcls (fun c z=>by rw[hdat]at z;cases z) hod hns hm rfl ?_;exact⟨.int k,H1,⟨I1.ok,I1.os,I1.bare,I1.base,I1.loc,I1.cell,I1.free,I1.freeC,I1.pin,I1.hok,I1.len⟩,⟨_,rfl⟩,q⟩
noncomputable def Ends.un(D:Ends)(i:Nat):Ends:=⟨fun σ H=>D.nx (σ.set i none) H,D.rt,fun σ H=>D.bk (σ.set i none) H,fun σ H=>D.ct (σ.set i none) H⟩
noncomputable def E9(CL CS:Addr)(i:Nat)(tb:XS->List (Addr×Obj)->TS)(th1:Addr->Addr->Obj->(Value->Shared->Prop)->TS)(th2:Addr->Obj->(Value->Shared->Prop)->TS):TS:=fun D σ H=>∀p0,tb (fun σ' cls dx H'=>(cls = .ref CL/\∃d,dx=some d/\∀ea oe xe,th1 ea d oe xe (D.un i) (σ'.set i (some (.ref ea))) H')\/(cls = .ref CS/\∀ea oe xe,th2 ea oe xe D σ' H')) p0 D σ H
theorem D3{CL CS:Addr}{ini1 ini2:Option Value}{n x1 x2:Str}{np1 np2 hp1 hp2:Pos}{s1' s2':List Stmt}{b1 b2:Stmt}{tb:XS->List (Addr×Obj)->TS}{th1:Addr->Addr->Obj->(Value->Shared->Prop)->TS}{th2:Addr->Obj->(Value->Shared->Prop)->TS}(hst:X.stack=X.env::X.outer)(hfr:X.env.frame=some X.env.locals)(hcl:∀x,X.env.cells.lookup x=none)(hA:Acc X Eo)(hN:X.N.Nodup)(hi:X.N[i]?=some n)(hk:X.env.scope.names.lookup n=some .local)(hne:CL≠CS)(hg1:Gl X x1)(hm1:X.mg x1=some (.ref CL))(hx1:iY X.base CL ini1)(hg2:Gl X x2)(hm2:X.mg x2=some (.ref CS))(hx2:iY X.base CS ini2)(hb:∀E1 p0,sI (X.tr E1 p0) body (tb E1 p0))(hh1:∀ea d oe xe,xA oe (.ref CL)->oe.dict=some d->sI (X.hd (.ref ea) [(ea,oe)] xe) (b1::s1') (th1 ea d oe xe))(hh2:∀ea oe xe,xA oe (.ref CS)->Acc (X.hd (.ref ea) [(ea,oe)] xe) Eo->sI (X.hd (.ref ea) [(ea,oe)] xe) (b2::s2') (th2 ea oe xe))(hdb1:(x1==("__debug__":Str))=false:=by decide)(hdb2:(x2==("__debug__":Str))=false:=by decide):
  PS X (.Try body [.ExceptHandler (some (.Name x1 np1)) (some n) (b1::s1') hp1,.ExceptHandler (some (.Name x2 np2)) none (b2::s2') hp2] [] [] pos) (E9 CL CS i tb th1 th2):=by
 intro pins s σ H D I h;refine wpAny_Try_except (KR (hb _ pins [] s σ H D I.to_tr (h pins)) (fun f s1 q=>?_) fun e s1 q=>?_)
 .cases f with
  |next =>
   obtain⟨σ',H',I',q⟩:=q;exact JV ⟨σ',H',by simpa using I'.of_tr,q⟩
  |brk=>obtain⟨σ',H',I',q⟩:=q;exact⟨σ',H',by simpa using I'.of_tr,q⟩
  |cont=>obtain⟨σ',H',I',q⟩:=q;exact⟨σ',H',by simpa using I'.of_tr,q⟩
  |ret v=>obtain⟨y,σ',H',I',r,q⟩:=q;exact⟨y,σ',H',by simpa using I'.of_tr,r,q⟩
 .obtain⟨pins2,σ2,H2,s2,ch,ea,cls,dx,H',B,rfl,I2,hch,xx,hor⟩:=q;have fl:Heap.FlAny B (X.env::X.outer) ea cls dx s1.heap:=by rw[<-hst];exact xx.fl
  refine d5 (by rw[I.ok.frames,hst]) hfr hfr fl fun h2 held up=>?_;have held:Heap.HeldP B X.stack ea cls dx X.env.locals h2:=by rw[hst];exact held
  have x2:=xx.move held.1 up held.any;refine ir (s:={s1 with heap:=h2}) held fun h3 fly up3=>?_;have x3:=x2.move fly.1 up3 fly.any;have I3:Inv (X.hd (.ref ea) [] (Du X (.ref ea))) pins σ2 H' {s1 with heap:=h3}:=iS hst hfr hcl I2 hch x3 (fun p hp=>nomatch hp);have e1:=hx1.keeps I3.bk;have e2:=hx2.keeps I3.bk;obtain⟨oe,vs,T,oT,ts,he,⟨hcls,_,_⟩,_⟩:=fly.2.2.2;refine wpAny_handleBy_cons (codeAny_handlers_test ?_) (by intro q;cases q);refine iH (X:=X.hd (.ref ea) [] (Du X (.ref ea))) I3 hg1 hm1 ?_ hdb1;rcases hor with⟨rfl,d,rfl,hth⟩|⟨rfl,hth⟩
  .obtain⟨N,nm,q,bs,hdct,sn,sub,ab,col,dd,k0,k1,k2,k3,k5,mN,hC,hN',hi'⟩:=e1;refine wpAny_excMatches_sub_self hC he hcls (by decide) (codeAny_handlers_suite_as ?_);refine gf (s:={s1 with heap:=h3}) fly fun h4 fly4 up4=>?_;have x4:=x3.move fly4.1 up4 fly4.any;obtain⟨oe4,vs4,T4,oT4,ts4,he4,⟨hcls4,hdx4,hcx4⟩,hd4,_⟩:=fly4.2.2.2;have I4:∀xe,Inv (X.hd (.ref ea) [(ea,oe4)] xe) pins σ2 H' {s1 with heap:=h4}:=fun xe=>iS hst hfr hcl I2 hch x4 (uk hst hfr x4 he4 hd4);refine mR (X:=X.hd (.ref ea) [(ea,oe4)] (fun _ _=>True)) (I4 _) hN hi (.inl hk) (show RelV (.ref ea) (.ref ea) from rfl) (fun s5 I5=>?_) (.inr hk);have key:=fun xe=>hh1 ea d oe4 xe ⟨hcls4,vs4,hd4,fun z=>hcx4 (hdx4.symm.trans z)⟩ hdx4 pins s5 _ H' _ I5.hd_xe (hth ea oe4 xe);refine KR (key _) (fun f s6 q=>?_) fun _ _ y=>y;cases f with
   |next=>obtain⟨σ',H',I',q⟩:=q;exact p5 (I'.of_hd I.ok) hN hi hk hcl fun s7 I7=>⟨_,H',I7,q⟩
   |brk=>obtain⟨σ',H',I',q⟩:=q;exact p5 (I'.of_hd I.ok) hN hi hk hcl fun s7 I7=>⟨_,H',I7,q⟩
   |cont=>obtain⟨σ',H',I',q⟩:=q;exact p5 (I'.of_hd I.ok) hN hi hk hcl fun s7 I7=>⟨_,H',I7,q⟩
   |ret v=>obtain⟨y,σ',H',I',r,q⟩:=q;exact p5 (I'.of_hd I.ok) hN hi hk hcl fun s7 I7=>⟨y,_,H',I7,r,q⟩
  .refine oH e2 e1 he hcls hne ?_;refine wpAny_handleBy_cons (codeAny_handlers_test ?_) (by intro q;cases q);refine iH (X:=X.hd (.ref ea) [] (Du X (.ref ea))) I3 hg2 hm2 ?_ hdb2;obtain⟨N,nm,q,bs,hdct,sn,sub,ab,col,dd,k0,k1,k2,k3,k5,mN,hC,hN',hi'⟩:=e2;refine wpAny_excMatches_sub_self hC he hcls (by decide) (codeAny_handlers_suite ?_);refine gf (s:={s1 with heap:=h3}) fly fun h4 fly4 up4=>?_;have x4:=x3.move fly4.1 up4 fly4.any;obtain⟨oe4,vs4,T4,oT4,ts4,he4,⟨hcls4,hdx4,hcx4⟩,hd4,_⟩:=fly4.2.2.2;have I4:Inv (X.hd (.ref ea) [(ea,oe4)] (Du X (.ref ea))) pins σ2 H' {s1 with heap:=h4}:=iS hst hfr hcl I2 hch x4 (uk hst hfr x4 he4 hd4);refine KR (hh2 ea oe4 (Du X (.ref ea)) ⟨hcls4,vs4,hd4,fun z=>hcx4 (hdx4.symm.trans z)⟩ (Dg hst hfr I.ok hA) pins _ σ2 H' D I4 (hth _ _ _)) (fun f s5 q=>?_) fun _ _ y=>y;cases f with
   |next=>obtain⟨σ',H',I',q⟩:=q;exact⟨σ',H',I'.of_hd I.ok,q⟩
   |brk=>obtain⟨σ',H',I',q⟩:=q;exact⟨σ',H',I'.of_hd I.ok,q⟩
   |cont=>obtain⟨σ',H',I',q⟩:=q;exact⟨σ',H',I'.of_hd I.ok,q⟩
   |ret v=>obtain⟨y,σ',H',I',r,q⟩:=q;exact⟨y,σ',H',I'.of_hd I.ok,r,q⟩
end L2
namespace NS
open PySem PySem.Spec L2
open PyProof.Rows hiding St
open NM
variable{P:Program}{w:World}{K:Lq}{mg:Str->Option Value}{base h:Heap}{x qual:Str}{N ps sn:List Str}{k:Nat}{sp:Sp}{X:Cx}{E:XS}{p C f a b d dx:Addr}{pos:Pos}{e:Expr}{es:Array DictEntry}{i j:Int}{tb:XS->List (Addr×Obj)->TS}{D:Ends}{σ:St}{H H' H0 H1 H2 Hb:Hp}{tt:TT}{te ta tl tv td ty:TE}{vs:List Nat}{Q:VK}{v y:V}{u:TS}{dvs xs ys:List V}{R:It->Hp->Prop}{A B:Prop}{o n m:List (List Nat)}{lo hi:Option Int}{q:NM.Pair}{sc:Scope}{cd oc doc pm cdv ct:Value}{s:Shared}{J:It}{Bad:Hp->Prop}{pl:Sem Bool}{kvs:List (KD×V)}{xe:Value->Shared->Prop}{an au:List NM.Pair}{full:Bool}{rs:List Sn12.Record}{od dd:Option Addr}{sl osl:Array (Option Value)}{sub:List Value}{col:Option Bool}{k0 k5:Option Value}{L:List (Addr×Obj×HO)}{zi:List Int}
noncomputable def top(i:Nat):Stmt:=PySem.Challenge.pw_nameserve_s01_answer.main.body.getD i (.Pass ⟨0,0,0,0⟩)
structure Def (K:Lq) (mg:Str->Option Value) (x:Str) (st:Stmt) (ps:List Str):Prop where
 ex:∃f fd,Do K x x st f fd/\mg x=some (.ref f)/\Binds K fd ps []
structure gz (P:Program) (w:World) (K:Lq) (mg:Str->Option Value) (base:Heap) (x:Str) (k:Nat) (ps:List Str) (sp:Sp):Prop where
 ex:∃f fd,pV P w K mg base (tJ P w) k f fd ps sp/\mg x=some (.ref f)/\PySem.W.keepIn K (.ref f)=true/\Binds K fd ps []
section
theorem Def.cal{st:Stmt}(D:Def K mg x st ps)(S:fR N ps (aE st))(len:∀vs H Q E,sp vs H Q E->vs.length=ps.length)(hbody:∀(f:Addr) (cdv:Value) (A:Around) (outer:List Env) (s:Shared) (H:Hp) (vs:List V) (Q:VK) (E:XK),fj k (A.deeper (envOfC x (aE st) s.heap.objs.size f cdv))->sp vs H Q E ->
   ∃t,sI (jq (tJ P w) P w K mg base N x (aE st) f cdv A outer s H E) (cI st) t/\t {nx:=fun _ H'=>Q .non H',rt:=Q} (start N vs) H):gz P w K mg base x (k+1) ps sp:=by
 obtain⟨f,fd,F,m,b⟩:=D.ex;exact⟨f,fd,F.okx S len fun cdv A outer s H vs Q E hr h=>hbody f cdv A outer s H vs Q E hr h,m,F.kp,b⟩
end
section
variable{p:Pos}{es:List Expr}{t:TA}
theorem HH(c:gz X.prog X.w X.K X.mg X.base x k ps sp)(hr:fj k X.A)(hA:Acc X E)(ha:PA X (e::es) t)(hg:Gl X x:=by rfl)(hdb:(x==("__debug__":Str))=false:=by decide)(he:starEach (e::es) X.env=(false,eval e X.env)::starEach es X.env:=by rfl)(hpl:(backTo pos (starEach es X.env)).any (·.1)=false:=by rfl):
  PE X (.Call (.Name x p) (e::es) [] pos) (yY sp [] E t):=by
 obtain⟨f,fd,F,m,kp,b⟩:=c.ex;exact Ec F hr hg m kp b .nil hA.passes ha hdb he hpl
noncomputable def GI(mg:Str->Option Value)(x:Str)(i:Int):Prop:=∃t,mg x=some (.int i t)
theorem aQ(h:GI X.mg x i)(hg:Gl X x:=by rfl)(hd:(x==("__debug__":Str))=false:=by decide):PE X (.Name x pos) (tC (.int i)):=by
 obtain⟨t,h⟩:=h;exact iD hg h ⟨t,rfl⟩ hd
end
structure Gm (mg:Str->Option Value):Prop where
 len:mg "len"=none
 tuple:mg "tuple"=none
 list:mg "list"=none
 sum:mg "sum"=none
 all:mg "all"=none
 ord:mg "ord"=none
 range:mg "range"=none
 enumerate:mg "enumerate"=none
 FL:GI mg "BLANK" 32
 zX:GI mg "QUOTE" 34
 tH:GI mg "SEMICOLON" 59
 rO:GI mg "DIGIT_ZERO" 48
 xu:GI mg "MOST_DIGITS" 10
 vq:GI mg "LONGEST_TEXT" 255
 E5:GI mg "AT_SIGN" 64
 Io:GI mg "DOT" 46
 G4:GI mg "HYPHEN" 45
 yJ:GI mg "UNDERSCORE" 95
 ml:GI mg "LONGEST_LABEL" 63
 nX:GI mg "LONGEST_NAME" 255
 Ds:GI mg "COLON" 58
 Dn:GI mg "GROUPS" 8
 sL:GI mg "LONGEST_GROUP" 4
 vp:GI mg "LONGEST_TIME" 2147483647
 pS:GI mg "TWO_OCTETS_MOST" 65535
 oV:GI mg "FOUR_OCTETS_MOST" 4294967295
 rP:GI mg "ANY_NUMBER" 255
 vj:GI mg "MOST_ALIASES" 16
 vh:GI mg "NO_SUCH_NAME" 3
 zW:GI mg "REFUSED" 5
 fM:GI mg "HEADER_SIZE" 12
 xy:GI mg "INTERNET" 1
 pT:GI mg "LONGEST_MESSAGE" 512
 G2:GI mg "LED_TO" 49152
 yL:GI mg "PLACES_END" 16384
 tI:GI mg "REPLY_BIT" 128
 pC:GI mg "OPCODE_BITS" 120
 EV:GI mg "OWN_BIT" 4
 xC:GI mg "CUT_OFF_BIT" 2
 sH:GI mg "RECURSION_BIT" 1
 Dt:GI mg "BAD_FORM" 1
 Dk:GI mg "NOT_DONE" 4
 vi:GI mg "MOST_RECORDS" 2048
 EW:GI mg "NEWLINE" 10
 xw:GI mg "LOWEST_SIGN" 32
 vw:GI mg "HIGHEST_SIGN" 126
 vv:GI mg "LONGEST_LINE" 600
 vm:GI mg "LONGEST_ZONE" 65536
 sJ:GI mg "LONGEST_QUERY" 65535
structure Hf (K:Lq) (mg:Str->Option Value) (x:Str) (C:Addr):Prop where
 bound:mg x=some (.ref C)
 obj:∀h:Heap,K.In h->iY h C none
theorem bA{np cpos:Pos}(c:Hf X.K X.mg x C)(hk:X.K.In X.base)(hA:Acc X E)(hc:X.calm=true:=by rfl)(hg:Gl X x:=by rfl)(hd:(x==("__debug__":Str))=false:=by decide):
  PS X (.Raise (some (.Call (.Name x np) [] [] cpos)) none pos) (xW E C):=Ah hA hc hg c.bound (c.obj _ hk) hd
noncomputable abbrev iv(n:Nat):V:=V.int (n:Int)
noncomputable abbrev nz(bs:List Nat):List V:=bs.map iv
noncomputable def lq(J:It)(g:TG)(tb:TS)(D:Ends)(σ:St)(H1:Hp):Prop:=∃W:Nat->Nat->St->Hp->Prop,(∃m,W 0 m σ H1)/\∀i m σ H,W i m σ H ->
 (J.stop i H/\D.nx σ H)\/(J.go i H/\∃N:St->Hp->Prop,(∀σ' H',N σ' H'->∃m',m'<m/\W (i+1) m' σ' H')/\∀x H',J.yld i H x H'->g x σ H' fun σ2 H2=>tb {D with nx:=N,ct:=N,bk:=D.nx} σ2 H2)
theorem dj{wi:TI}{g:TG}{tb:TS}:Hr wi g tb D σ H=wi σ H fun J H1=>lq J g tb D σ H1:=rfl
noncomputable def Dx(J:It)(g:TG)(tt:TT)(te:TE)(vs:List Nat)(σ:St)(H1:Hp)(Q:VK)(D:Addr):Prop:=∃W:Nat->Nat->Hp->Prop,(∃m,W 0 m (upd H1 D (.lst [])))/\∀i m H,W i m H ->
 (J.stop i H/\Q (.ref D) H)\/(J.go i H/\∃Nx:Hp->Prop,(∀H',Nx H'->∃m',m'<m/\W (i+1) m' H')/\∀x H',J.yld i H x H'->g x (wipe σ vs) H' fun σ2 H2=>wipe σ2 vs=wipe σ vs/\tt σ2 H2 fun b H3 =>
  if b=true then te σ2 H3 fun y H4=>∃acc,H4 D=some (.lst acc)/\acc.length<sizeLine/\Nx (upd H4 D (.lst (acc++[y]))) else Nx H3)
theorem eU{wi:TI}{g:TG}:Hn wi g tt te vs σ H Q=wi σ H fun J H1=>∀D,H1 D=none->Dx J g tt te vs σ H1 Q D:=rfl
theorem cY{i:Nat}:z8 i σ H Q=GD σ[i]? fun v=>Q v H:=rfl
theorem h9{P:V->Prop}:GD (some (some v)) P=P v:=rfl
theorem eT{r:R2}{tb:TE}:FP r ta tb σ H Q=ta σ H fun x H1=>tb σ H1 fun y H2=>r x y H2 Q:=rfl
theorem hG:tC v σ H Q=Q v H:=rfl
theorem eK{r:V->Hp->VK->Prop}:Js r ta σ H Q=ta σ H fun x H1=>r x H1 Q:=rfl
theorem bQ{t:TE}{Q:Bool->Hp->Prop}:yV t σ H Q=t σ H fun x H'=>uM x fun k=>Q k H':=rfl
theorem hJ{t:TE}{Q:Bool->Hp->Prop}:tB t σ H Q=t σ H fun x H'=>uM x fun k=>Q k H':=rfl
theorem bz{r r':R2}{tb tc:TE}:xQ r r' ta tb tc σ H Q=ta σ H fun x H1=>tb σ H1 fun y H2=>r x y H2 fun z H3=>uM z fun k =>
 (if k=true then tc σ H3 fun w' H4=>r' y w' H4 Q else Q (.bl false) H3):=rfl
theorem dz{t u:TT}{Q:Bool->Hp->Prop}:Ht t u σ H Q=t σ H fun c H1=>if c=true then u σ H1 Q else Q false H1:=rfl
theorem eS{t u:TT}{Q:Bool->Hp->Prop}:Ju t u σ H Q=t σ H fun c H1=>if c=true then Q true H1 else u σ H1 Q:=rfl
theorem c9{t:TT}{Q:Bool->Hp->Prop}:Hk t σ H Q=t σ H fun c H1=>Q (!c) H1:=rfl
theorem cy{t u:TE}:Fk t u σ H Q=t σ H fun x H1=>uM x fun c=>if c=true then u σ H1 Q else Q (.bl false) H1:=rfl
theorem c8{t u:TE}:Hi t u σ H Q=t σ H fun x H1=>uM x fun c=>if c=true then Q (.bl true) H1 else u σ H1 Q:=rfl
theorem bU{t:TE}:Hj t σ H Q=t σ H fun x H1=>uM x fun c=>Q (.bl (!c)) H1:=rfl
theorem di{t:TT}{tb:TE}:Jv t ta tb σ H Q=t σ H fun c H1=>if c=true then ta σ H1 Q else tb σ H1 Q:=rfl
theorem df:Ho ta σ H Q=ta σ H fun x H1=>Q (.bl (decide (x = .non))) H1:=rfl
theorem bV:Fe ta σ H Q=ta σ H fun x H1=>Q (.bl (!decide (x = .non))) H1:=rfl
theorem bW:Ff D σ H=D.nx σ H:=rfl
theorem c5{t:TS}:Bb t u D σ H=t {D with nx:=u D} σ H:=rfl
theorem dv:FR D σ H=D.bk σ H:=rfl
theorem ck:Fh te D σ H=te σ H fun _ H1=>D.nx σ H1:=rfl
theorem c6:Hh te D σ H=te σ H D.rt:=rfl
theorem bS:Fb D σ H=D.rt .non H:=rfl
theorem dh{c:TT}{t:TS}:Hq c t u D σ H=c σ H fun b H1=>if b=true then t D σ H1 else u D σ H1:=rfl
theorem dy{g:TG}:Bg te g D σ H=te σ H fun x H1=>g x σ H1 D.nx:=rfl
theorem bw{i:Nat}{Q:St->Hp->Prop}:mh i v σ H Q=Q (σ.set i (some v)) H:=rfl
theorem dw{i:Nat}{ti:Hd}:FS i te ti D σ H=GD σ[i]? fun x=>te σ H fun y H1=>ti x y H1 fun z H2=>D.nx (σ.set i (some z)) H2:=rfl
theorem da{Q:List V->Hp->Prop}:vJ σ H Q=Q [] H:=rfl
theorem cw{tr:TA}{Q:List V->Hp->Prop}:vM ta tr σ H Q=ta σ H fun x H1=>tr σ H1 fun xs H2=>Q (x::xs) H2:=rfl
theorem cZ{t:TA}:FO t σ H Q=t σ H fun xs H1=>xs.length<=sizeLine/\∀p,H1 p=none->Q (.ref p) (upd H1 p (.tup xs)):=rfl
theorem de{t:TA}:Hl t σ H Q=t σ H fun xs H1=>xs.length<=sizeLine/\∀p,H1 p=none->Q (.ref p) (upd H1 p (.lst xs)):=rfl
theorem cx{t:TA}:yY sp dvs E t σ H Q=t σ H fun vs H1=>sp (vs++dvs) H1 Q (E σ):=rfl
theorem eW{r:List V->Hp->VK->Prop}{t:TA}:Iq r t σ H Q=t σ H fun vs H1=>r vs H1 Q:=rfl
theorem eM{r:V->Option Int->Option Int->Hp->VK->Prop}{tl th:TO}:Jt r te tl th σ H Q=te σ H fun x H1=>tl σ H1 fun l H2=>th σ H2 fun u H3=>r x l u H3 Q:=rfl
theorem aW{Q:Option Int->Hp->Prop}:yW σ H Q=Q none H:=rfl
theorem bT{t:TE}{Q:Option Int->Hp->Prop}:Fc t σ H Q=t σ H fun x H1=>Cr x fun i=>Q (some i) H1:=rfl
theorem br:FE K tl σ H R=tl σ H fun x H1=>kh x fun a=>(∃xs,aY K H1 a xs)/\R (xE K a) H1:=rfl
theorem b7:HQ K tl σ H R=tl σ H fun x H1=>kh x fun a=>(∃xs,gG K H1 a xs)/\R (yN K a) H1:=rfl
theorem bq{ta:TA}:FD ta σ H R=ta σ H fun vs H1=>∃j:Int,vs=[.int j]/\ -(2^62)<=j/\j<2^62/\R (Dy 0 j.toNat) H1:=rfl
theorem bp{ta:TA}:FC ta σ H R=ta σ H fun vs H1=>∃i j:Int,vs=[.int i,.int j]/\(-(2^62)<=i/\i<2^62/\ -(2^62)<=j/\j<2^62)/\R (Dy i (j-i).toNat) H1:=rfl
theorem bo{ta:TA}:FA ta σ H R=ta σ H fun vs H1=>∃(i j c:Int) (n:Nat),vs=[.int i,.int j,.int c]/\Ij i j c n/\R (G3 i c n) H1:=rfl
theorem b8:HR te σ H R=te σ H fun v H1=>∃x,v = .str x/\R (IE x) H1:=rfl
theorem eV{T:String}{r:V->List V->Hp->VK->Prop}{to:TE}{t:TA}:Jw K T r to t σ H Q=to σ H fun x H1=>AX K T x H1/\t σ H1 fun xs H2=>r x xs H2 Q:=rfl
theorem eQ{C:Int->Int->Prop}{g:Int->Int->V}:rI C g (.int i) (.int j) H Q=(C i j/\Q (g i j) H):=rfl
theorem c7{g:Int->Int->V}:zk g (.int i) (.int j) H Q=Q (g i j) H:=rfl
theorem dg{f:Int->Int->Int}:Jx f (.int i) (.int j) H Q=Q (.int (f i j)) H:=rfl
theorem eO{g:Int->V}:rU g (.int i) H Q=Q (g i) H:=rfl
theorem Ga:Iu (.int i) (.int j) H Q=Q (.bl (decide (i=j))) H:=by
 show(true=true/\Q (.bl (decide (V.int i=V.int j))) H)=_;simp only[V.int.injEq,true_and]
theorem F8:Ir (.int i) (.int j) H Q=Q (.bl (!decide (i=j))) H:=by
 show(true=true/\Q (.bl (!decide (V.int i=V.int j))) H)=_;simp only[V.int.injEq,true_and]
theorem F9{i j:Str}:Iu (.str i) (.str j) H Q=Q (.bl (decide (i=j))) H:=by
 show(true=true/\Q (.bl (decide (V.str i=V.str j))) H)=_;simp only[V.str.injEq,true_and]
theorem F7{i j:Str}:Ir (.str i) (.str j) H Q=Q (.bl (!decide (i=j))) H:=by
 show(true=true/\Q (.bl (!decide (V.str i=V.str j))) H)=_;simp only[V.str.injEq,true_and]
theorem bc:xW E C D σ H=E σ (.ref C) none H:=rfl
theorem bf:FQ D σ H=False:=rfl
theorem IQ{P:Int->Prop}:(∃j,V.int i=V.int j/\P j)=P i:=by
 simp only[V.int.injEq,exists_eq_left']
theorem dJ{i:Str}{P:Str->Prop}:(∃j,V.str i=V.str j/\P j)=P i:=by
 simp only[V.str.injEq,exists_eq_left']
theorem fc{i:Bool}{P:Bool->Prop}:uM (.bl i) P=P i:=rfl
theorem dH{i:Addr}{P:Addr->Prop}:kh (.ref i) P=P i:=rfl
theorem cz{i:Addr}{P:Addr->Prop}:AE [.ref i] P=P i:=rfl
theorem dI{P:Int->Prop}:Cr (.int i) P=P i:=rfl
theorem eD{c:Prop}[Decidable c]:(decide c=true)=c:=by simp
theorem cU{c:Prop}[Decidable c]:((!decide c)=true)=¬c:=by simp
theorem cA{c:Prop}[Decidable c]:((!!decide c)=true)=c:=by simp
theorem aK:(if true=true then A else B)=A:=rfl
theorem aG:(if false=true then A else B)=B:=rfl
theorem e7:(if (!true)=true then A else B)=B:=rfl
theorem e8:(if (!false)=true then A else B)=A:=rfl
theorem eX:decide (V.non=V.non)=true:=rfl
theorem eY:decide (V.ref a=V.non)=false:=rfl
theorem eZ{a:Int}:decide (V.int a=V.non)=false:=rfl
theorem GV:bootBuiltins "len"=some (.builtin "len"):=by decide +kernel
theorem C9:bootBuiltins "sum"=some (.builtin "sum"):=by decide +kernel
theorem Da:bootBuiltins "all"=some (.builtin "all"):=by decide +kernel
theorem GU:bootBuiltins "ord"=some (.builtin "ord"):=by decide +kernel
theorem fw:bootBuiltins "tuple"=some (.type "tuple"):=by decide +kernel
theorem zQ:bootBuiltins "list"=some (.type "list"):=by decide +kernel
noncomputable def Sq(K:Lq)(H:Hp)(a:Addr)(xs:List V):Prop:=aY K H a xs\/gG K H a xs
noncomputable def Tp(H:Hp)(v:V)(xs:List V):Prop:=∃a,v = .ref a/\Rd H a (.tup xs)
noncomputable def Bt(H:Hp)(v:V)(bs:List Nat):Prop:=Tp H v (nz bs)
noncomputable def Nm(H:Hp)(v:V)(n:List (List Nat)):Prop:=∃vs,Tp H v vs/\Paired (Bt H) vs n
theorem ar.rd{o:HO}(s:ar H H')(h:Rd H a o):Rd H' a o:=by
 rcases h with h|⟨o,h⟩
 .exact .inl (s _ _ h)
 .exact .inr ⟨o,s _ _ h⟩
theorem ar.sqt(s:ar H H')(h:gG K H a xs):gG K H' a xs:=by
 rcases h with h|h
 .exact .inl (ar.rd s h)
 .exact .inr h
theorem Tp.same(h:Tp H v xs)(s:ar H H'):Tp H' v xs:=by
 obtain⟨a,rfl,h⟩:=h;exact⟨a,rfl,ar.rd s h⟩
theorem Bt.same{bs:List Nat}(h:Bt H v bs)(s:ar H H'):Bt H' v bs:=Tp.same h s
theorem Paired.imp{α β:Type}{R S:α->β->Prop}(i:∀a b,R a b->S a b):∀{as:List α} {bs:List β},Paired R as bs->Paired S as bs
 |_,_,.nil=>.nil
 |_,_,.cons r t=>.cons (i _ _ r) (Paired.imp i t)
theorem Paired.get{α β:Type}{R:α->β->Prop}:∀{as:List α} {bs:List β} {i:Nat} {a:α},Paired R as bs->as[i]?=some a->∃b,bs[i]?=some b/\R a b
 |_,_,_,_,.nil,e=>by simp at e
 |_,_,0,_,.cons r _,e=>by simp at e;subst e;exact⟨_,rfl,r⟩
 |_,_,i+1,x,.cons _ t,e=>by
  obtain⟨u,h1,h2⟩:=Paired.get (i:=i) (a:=x) t (by simpa using e);exact⟨u,by simpa using h1,h2⟩
theorem Paired.app{α β:Type}{R:α->β->Prop}:∀{as cs:List α} {bs ds:List β},Paired R as bs->Paired R cs ds->Paired R (as++cs) (bs++ds)
 |_,_,_,_,.nil,s=>s
 |_,_,_,_,.cons r t,s=>.cons r (Paired.app t s)
theorem Paired.dropP{α β:Type}{R:α->β->Prop}:∀{as:List α} {bs:List β} (n:Nat),Paired R as bs->Paired R (as.drop n) (bs.drop n)
 |_,_,0,r=>r
 |_,_,_+1,.nil=>.nil
 |_,_,n+1,.cons _ t=>Paired.dropP n t
theorem Paired.takeP{α β:Type}{R:α->β->Prop}:∀{as:List α} {bs:List β} (n:Nat),Paired R as bs->Paired R (as.take n) (bs.take n)
 |_,_,0,_=>.nil
 |_,_,_+1,.nil=>.nil
 |_,_,n+1,.cons r t=>.cons r (Paired.takeP n t)
theorem Paired.snoc{α β:Type}{R:α->β->Prop}{as:List α}{bs:List β}{a:α}{b:β}(h:Paired R as bs)(r:R a b):Paired R (as++[a]) (bs++[b]):=Paired.app h (.cons r .nil)
theorem Nm.same(h:Nm H v n)(s:ar H H'):Nm H' v n:=by
 obtain⟨vs,t,p⟩:=h;exact⟨vs,t.same s,Paired.imp (fun _ _ r=>Bt.same r s) p⟩
theorem aj{o:HO}(h:H p=none):ar H (upd H p o):=fun b u e=>by
 rw[ai (aH e h)];exact e
theorem a8{o:HO}(s:ar H0 H)(h:H0 p=none):ar H0 (upd H p o):=fun b u e=>by
 rw[ai (aH e h)];exact s b u e
theorem Bt.new{bs:List Nat}:Bt (upd H p (.tup (nz bs))) (.ref p) bs:=⟨p,rfl,.inl af⟩
theorem Tp.new:Tp (upd H p (.tup xs)) (.ref p) xs:=⟨p,rfl,.inl af⟩
section
theorem cT(h:gG K H a xs)(e:xn xs i=some v)(q:Q v H):DZ K (.ref a) (.int i) H Q:=⟨a,xs,i,v,rfl,rfl,h,e,q⟩
theorem dP(h:aY K H a xs)(e:xn xs i=some v)(q:Q v H):HF K (.ref a) (.int i) H Q:=⟨a,xs,i,v,rfl,rfl,h,e,q⟩
theorem pj{bs:List Nat}{i:Nat}{n:Nat}(h:bs[i]?=some n):xn (nz bs) (i:Int)=some (iv n):=bG (by rw[KW,h];rfl)
theorem qO{bs:List Nat}{i:Nat}{x:V}(h:(nz bs)[i]?=some x):∃n,bs[i]?=some n/\x=iv n:=by
 rw[KW]at h;cases e:bs[i]? with
 |none=>rw[e]at h;cases h
 |some n=>rw[e]at h;exact⟨n,rfl,(Ku h).symm⟩
theorem aD{bs:List Nat}:(nz bs).length=bs.length:=Kk _
theorem vW{neg:Bool}{x:V}(h:gG K H p xs)(hx:mj x=true)(hxs:xs.all mj=true)(q:Q (.bl (if neg then !zA x xs else zA x xs)) H):G8 K neg x (.ref p) H Q:=⟨p,xs,rfl,.inr h,hx,hxs,q⟩
theorem rp(h:aY K H a xs)(q:∀p,H p=none->Q (.ref p) (upd H p (.lst (fK xs lo hi)))):qy K (.ref a) lo hi H Q:=⟨a,xs,rfl,h,q⟩
end
section
variable{g:TG}{tb:TS}
theorem yT(Pv:Nat->St->Hp->Prop)(h0:Pv 0 σ H)(hl:∀i σ H,i<=xs.length->Pv i σ H->aY K H a xs)(hs:∀i x σ H,xs[i]?=some x->Pv i σ H->g x σ H fun σ2 H2=>tb {D with nx:=Pv (i+1),ct:=Pv (i+1),bk:=D.nx} σ2 H2)(hd:∀σ H,Pv xs.length σ H->D.nx σ H):lq (xE K a) g tb D σ H:=CH Pv h0 hl hs hd
theorem xP(Pv:Nat->St->Hp->Prop)(h0:Pv 0 σ H)(hl:∀i σ H,i<=xs.length->Pv i σ H->gG K H a xs)(hs:∀i x σ H,xs[i]?=some x->Pv i σ H->g x σ H fun σ2 H2=>tb {D with nx:=Pv (i+1),ct:=Pv (i+1),bk:=D.nx} σ2 H2)(hd:∀σ H,Pv xs.length σ H->D.nx σ H):lq (yN K a) g tb D σ H:=Ey Pv h0 hl hs hd
theorem vI{lo:Int}{n:Nat}(Pv:Nat->St->Hp->Prop)(h0:Pv 0 σ H)(hs:∀i σ H,i<n->Pv i σ H->g (.int (lo+i)) σ H fun σ2 H2=>tb {D with nx:=Pv (i+1),ct:=Pv (i+1),bk:=D.nx} σ2 H2)(hd:∀σ H,Pv n σ H->D.nx σ H):lq (Dy lo n) g tb D σ H:=AK Pv h0 hs hd
theorem oZ{c:TT}(Pv:Nat->St->Hp->Prop)(m:Nat)(h0:Pv m σ H)(hs:∀m σ H,Pv m σ H->c σ H fun b H1=>if b=true then ∃N:St->Hp->Prop,(∀σ' H',N σ' H'->∃m',m'<m/\Pv m' σ' H')/\tb {D with nx:=N,ct:=N,bk:=D.nx} σ H1 else D.nx σ H1):Ba c tb D σ H:=⟨Pv,⟨m,h0⟩,hs⟩
end
section
variable{g:TG}{D:Addr}
theorem Cm(Pv:Nat->Hp->Prop)(h0:Pv 0 (upd H1 D (.lst [])))(hl:∀i H,i<=xs.length->Pv i H->aY K H a xs)(hs:∀i x H,xs[i]?=some x->Pv i H->g x (wipe σ vs) H fun σ2 H2=>wipe σ2 vs=wipe σ vs/\tt σ2 H2 fun b H3 =>
   if b=true then te σ2 H3 fun y H4=>∃acc,H4 D=some (.lst acc)/\acc.length<sizeLine/\Pv (i+1) (upd H4 D (.lst (acc++[y]))) else Pv (i+1) H3)(hd:∀H,Pv xs.length H->Q (.ref D) H):Dx (xE K a) g tt te vs σ H1 Q D:=Er (Qd:=fun H=>Q (.ref D) H) Pv h0 hl hs hd
theorem Em(Pv:Nat->Hp->Prop)(h0:Pv 0 (upd H1 D (.lst [])))(hl:∀i H,i<=xs.length->Pv i H->gG K H a xs)(hs:∀i x H,xs[i]?=some x->Pv i H->g x (wipe σ vs) H fun σ2 H2=>wipe σ2 vs=wipe σ vs/\tt σ2 H2 fun b H3 =>
   if b=true then te σ2 H3 fun y H4=>∃acc,H4 D=some (.lst acc)/\acc.length<sizeLine/\Pv (i+1) (upd H4 D (.lst (acc++[y]))) else Pv (i+1) H3)(hd:∀H,Pv xs.length H->Q (.ref D) H):Dx (yN K a) g tt te vs σ H1 Q D:=Gr (Qd:=fun H=>Q (.ref D) H) Pv h0 hl hs hd
end
noncomputable def HS(K:Lq)(tl:TE):TI:=fun σ H R=>tl σ H fun x H1=>kh x fun a=>((∃xs,aY K H1 a xs)/\R (xE K a) H1\/(∃xs,gG K H1 a xs)/\R (yN K a) H1)
noncomputable def HD(K:Lq):V->Option Int->Option Int->Hp->VK->Prop:=fun x lo hi H Q=>qy K x lo hi H Q\/DY K x lo hi H Q
theorem BE:ER X (HD X.K):=f9.or fO
theorem Gh{tg l:Expr}(hl:PE X l tl):PI X tg l (HS X.K tl):=by
 intro pins s σ H R I h;refine cO (hl pins s σ H _ I h) fun v s1 ⟨x,H1,I1,r1,qr⟩=>?_;obtain⟨a,ex,q1⟩:=fC qr;subst ex;cases r1;have fin:∀b∈[s1.heap.objs.size],mM X pins H1 b:=fun b hb=>by
  have e:b=s1.heap.objs.size:=by simpa using hb
  subst e;exact I1.fpOk (JY _) (I1.hok.fresh (JY _))
 rcases q1 with⟨⟨xs,hq⟩,q⟩|⟨⟨xs,hq⟩,q⟩
 .obtain⟨its,rv,p,hz⟩:=I1.list hq;refine wpAny_pyIter_list p.isList ?_;exact⟨s1.heap.objs.size,[s1.heap.objs.size],_,_,H1,rfl,I1.kept (t':=s1.toks) fun b o e=>JZ _ e,sO a _,⟨_,J6 _ rfl,rfl,rfl⟩,fin,q⟩
 .obtain⟨its,rv,p,hz⟩:=I1.tuple hq;refine wpAny_pyIter_tuple (show s1.heap.IsTuple a its.toArray from p) ?_;exact⟨s1.heap.objs.size,[s1.heap.objs.size],_,_,H1,rfl,I1.kept (t':=s1.toks) fun b o e=>JZ _ e,qc a _,⟨_,J6 _ rfl,rfl,rfl⟩,fin,q⟩
noncomputable def Di(K:Lq)(H:Hp)(a:Addr)(R:It->Hp->Prop):Prop:=(∃xs,aY K H a xs)/\R (xE K a) H\/(∃xs,gG K H a xs)/\R (yN K a) H
theorem cb:HS K tl σ H R=tl σ H fun x H1=>kh x fun a=>Di K H1 a R:=rfl
structure As where
 (CN CL CS CR CF CQ CM CZ:Addr)
 (star kn la:Addr)
variable{c:As}
structure mL (K:Lq) (C:Addr) (x qual:Str) (st:Stmt) (ps:List Str):Prop where
 ex:∃f fd,Do K x qual st f fd/\Dl K C x f/\Binds K fd ps []
structure yO (K:Lq) (C:Addr) (qual:Str) (st:Stmt) (ps:List Str):Prop where
 ex:∃f fd,Do K "__init__" qual st f fd/\Mk K C f/\Binds K fd ps []
structure Top (K:Lq) (mg:Str->Option Value) (base:Heap) (c:As):Prop where
 g:Gm mg
 hk:K.In base
 aT:Hf K mg "NotAsTold" c.CN
 gd:Hf K mg "NotServed" c.CS
 ES:mg "STAR"=some (.ref c.star)
 j5:mg "KIND_NUMBERS"=some (.ref c.kn)
 EZ:mg "LAYOUTS"=some (.ref c.la)
 AO:Def K mg "spelled" (top 11) ["text"]
 yF:Def K mg "split_at" (top 12) ["octets","mark"]
 sj:Def K mg "split_words" (top 13) ["line"]
 yE:Def K mg "word_end" (top 14) ["line","start"]
 u5:Def K mg "quoted_end" (top 15) ["line","start"]
 uY:Def K mg "read_whole" (top 16) ["word","limit"]
 wY:Def K mg "read_text" (top 17) ["word"]
 rE:Def K mg "small_letter" (top 26) ["octet"]
 so:Def K mg "small_label" (top 27) ["octets"]
 pO:Def K mg "is_label_sign" (top 28) ["octet"]
 xc:Def K mg "name_size" (top 29) ["name"]
 xf:Def K mg "is_within" (top 30) ["name","origin"]
 u0:Def K mg "read_label" (top 31) ["octets"]
 sy:Def K mg "read_labels" (top 32) ["word"]
 w4:Def K mg "read_name" (top 33) ["word","origin"]
 sr:Def K mg "read_origin" (top 34) ["word"]
 uU:Def K mg "two_octets" (top 36) ["number"]
 sD:Def K mg "four_octets" (top 37) ["number"]
 w9:Def K mg "number_at" (top 38) ["octets","place"]
 k9:Def K mg "read_short_address" (top 43) ["word"]
 xg:Def K mg "hex_digit" (top 44) ["octet"]
 u4:Def K mg "read_group" (top 45) ["octets"]
 sC:Def K mg "read_groups" (top 46) ["octets"]
 rG:Def K mg "double_colon" (top 47) ["word"]
 nN:Def K mg "read_all_groups" (top 48) ["word"]
 lY:Def K mg "read_long_address" (top 49) ["word"]
 Ct:yO K c.CR "Record.__init__" (inClass (top 56) 0) ["self","name","kind","time","said"]
 uX:Def K mg "record_key" (top 57) ["record"]
 w6:Def K mg "read_kind" (top 58) ["word"]
 w8:Def K mg "only_word" (top 59) ["words"]
 uZ:Def K mg "read_texts" (top 60) ["words"]
 pM:Def K mg "read_laid_out" (top 61) ["layout","words","origin"]
 wZ:Def K mg "read_said" (top 62) ["kind","words","origin"]
 sq:Def K mg "read_record" (top 63) ["words","origin"]
 AH:yO K c.CF "Finding.__init__" (inClass (top 69) 0) ["self"]
 AR:Def K mg "look_up" (top 70) ["zone","asked_name","asked_number"]
 sE:Def K mg "end_outside" (top 71) ["finding"]
 kf:Def K mg "look_up_and_lead_on" (top 72) ["zone","name","asked_number","finding"]
 pN:Def K mg "own_authority" (top 73) ["zone"]
 uV:Def K mg "take_asked" (top 74) ["zone","name","records","asked_number","finding"]
 nP:Def K mg "additional_ones" (top 75) ["zone","finding"]
 yu:yO K c.CQ "Question.__init__" (inClass (top 79) 0) ["self","name","octets"]
 rF:Def K mg "name_or_none" (top 80) ["query"]
 mI:Def K mg "question_or_none" (top 81) ["query"]
 AG:yO K c.CM "Message.__init__" (inClass (top 86) 0) ["self"]
 lj:mL K c.CM "keep_place" "Message.keep_place" (inClass (top 86) 1) ["self","name","place"]
 jo:mL K c.CM "write_question" "Message.write_question" (inClass (top 86) 2) ["self","question"]
 lh:mL K c.CM "write_name" "Message.write_name" (inClass (top 86) 3) ["self","name","may_lead"]
 lg:mL K c.CM "write_said" "Message.write_said" (inClass (top 86) 4) ["self","record"]
 j4:mL K c.CM "write_record" "Message.write_record" (inClass (top 86) 5) ["self","name","record"]
 iU:mL K c.CM "write_if_it_fits" "Message.write_if_it_fits" (inClass (top 86) 6) ["self","name","record"]
 jH:mL K c.CM "write_section" "Message.write_section" (inClass (top 86) 7) ["self","pairs"]
 ED:Def K mg "reply" (top 95) ["zone","query"]
 C2:Def K mg "header" (top 96) ["query","bits","code","counts"]
 nO:Def K mg "looked_up_reply" (top 97) ["zone","query","question"]
 GF:yO K c.CZ "Zone.__init__" (inClass (top 100) 0) ["self","origin","records"]
 nR:mL K c.CZ "mark_there" "Zone.mark_there" (inClass (top 100) 1) ["self","name"]
 mJ:mL K c.CZ "own_records" "Zone.own_records" (inClass (top 100) 2) ["self","name"]
 nQ:mL K c.CZ "records_of" "Zone.records_of" (inClass (top 100) 3) ["self","name","kind"]
 jG:mL K c.CZ "authority_record" "Zone.authority_record" (inClass (top 100) 4) ["self"]
 mK:mL K c.CZ "cut_or_none" "Zone.cut_or_none" (inClass (top 100) 5) ["self","name"]
 gA:mL K c.CZ "counting_records_or_none" "Zone.counting_records_or_none" (inClass (top 100) 6) ["self","name"]
 nJ:Def K mg "without_repeats" (top 101) ["records"]
 oJ:Def K mg "check_together" (top 102) ["records"]
 rH:Def K mg "check_served" (top 103) ["zone","records"]
 EC:Def K mg "serve" (top 104) ["origin","records"]
 C1:Def K mg "is_fit" (top 110) ["line"]
 sF:Def K mg "check_lines" (top 111) ["lines"]
 oI:Def K mg "origin_of_line" (top 112) ["line"]
 nM:Def K mg "records_of_line" (top 113) ["line","origin"]
 wX:Def K mg "read_zone" (top 114) ["text"]
 C3:Def K mg "answer" (top 118) ["zone","query"]
 aN:p7 K c.CR
 Cd:mg "Record"=some (.ref c.CR)
 f6:aO K c.CR "name"
 cW:aO K c.CR "kind"
 ig:aO K c.CR "number"
 fA:aO K c.CR "time"
 iW:aO K c.CR "front"
 fL:aO K c.CR "names"
 js:aO K c.CR "back"
 cR:p7 K c.CF
 Ay:mg "Finding"=some (.ref c.CF)
 iX:aO K c.CF "code"
 gT:aO K c.CF "is_own"
 d8:aO K c.CF "answers"
 eE:aO K c.CF "authority"
 eA:p7 K c.CQ
 ym:mg "Question"=some (.ref c.CQ)
 ij:aO K c.CQ "name"
 gx:aO K c.CQ "octets"
 jf:aO K c.CQ "number"
 jK:aO K c.CQ "group"
 bK:p7 K c.CM
 Ax:mg "Message"=some (.ref c.CM)
 gS:aO K c.CM "octets"
 jL:aO K c.CM "places"
 gy:aO K c.CM "is_full"
 cM:p7 K c.CZ
 Gp:mg "Zone"=some (.ref c.CZ)
 eB:aO K c.CZ "origin"
 gw:aO K c.CZ "by_name"
 fQ:aO K c.CZ "there"
theorem cX{Q:Bool->Hp->Prop}:A9 σ H Q=Q true H:=rfl
theorem ib{CX:G6}{q:Str}{A:Around}{o:List Env}{E:XK}:(jq CX P w K mg base N q sc f cd A o s H E).K=K:=rfl
theorem fe{CX:G6}{q:Str}{A:Around}{o:List Env}{E:XK}:(jq CX P w K mg base N q sc f cd A o s H E).mg=mg:=rfl
theorem az{n:Nat}(h:n<=16777216):n<=sizeLine:=by rw[sizeLine_eq];exact h
theorem gZ{n:Nat}(h:n<16777216):n<sizeLine:=by rw[sizeLine_eq];exact h
noncomputable def Lk(H H':Hp):Prop:=∀b o,H b=some o->(∀xs,o ≠ .lst xs)->H' b=some o
theorem iy(s:ar H H'):Lk H H':=fun b o e _=>s b o e
theorem Lk.trans(a:Lk H H1)(b:Lk H1 H2):Lk H H2:=fun c o h n=>b c o (a c o h n) n
theorem jZ{o:HO}(h:H p=some (.lst xs)):Lk H (upd H p o):=fun b u e n=>by
 rw[ai]
 .exact e
 .rintro rfl;rw[h]at e;exact n xs (Ku e).symm
theorem Lk.rdT(s:Lk H H')(h:Rd H a (.tup xs)):Rd H' a (.tup xs):=by
 rcases h with h|⟨o,h⟩
 .exact .inl (s _ _ h (by simp))
 .exact .inr ⟨o,s _ _ h (by simp)⟩
theorem Tp.lk(h:Tp H v xs)(s:Lk H H'):Tp H' v xs:=by
 obtain⟨a,rfl,h⟩:=h;exact⟨a,rfl,s.rdT h⟩
theorem Bt.lk{bs:List Nat}(h:Bt H v bs)(s:Lk H H'):Bt H' v bs:=Tp.lk h s
theorem Nm.lk(h:Nm H v n)(s:Lk H H'):Nm H' v n:=by
 obtain⟨vs,t,p⟩:=h;exact⟨vs,t.lk s,Paired.imp (fun _ _ r=>Bt.lk r s) p⟩
noncomputable def Walk(K:Lq)(H:Hp)(J:It)(xs:List V):Prop:=∃a,(J=xE K a/\aY K H a xs)\/(J=yN K a/\gG K H a xs)
theorem Walk.l(h:aY K H a xs):Walk K H (xE K a) xs:=⟨a,.inl ⟨rfl,h⟩⟩
theorem Walk.t(h:gG K H a xs):Walk K H (yN K a) xs:=⟨a,.inr ⟨rfl,h⟩⟩
theorem DW(h:Sq K H0 a xs)(s:ar H0 H)(q:∀J,Walk K H0 J xs->R J H):Di K H a R:=by
 rcases h with h|h
 .exact .inl ⟨⟨_,s.seq h⟩,q _ (.l h)⟩
 .exact .inr ⟨⟨_,ar.sqt s h⟩,q _ (.t h)⟩
theorem F5(h:Sq K H a xs)(q:∀J,Walk K H J xs->R J H):Di K H a R:=DW h (ar.refl _) q
section
variable{g:TG}{tb:TS}
theorem gW(w:Walk K H0 J xs)(Pv:Nat->St->Hp->Prop)(h0:Pv 0 σ H)(hl:∀i σ H',Pv i σ H'->ar H0 H')(hs:∀i x σ H,xs[i]?=some x->Pv i σ H->g x σ H fun σ2 H2=>tb {D with nx:=Pv (i+1),ct:=Pv (i+1),bk:=D.nx} σ2 H2)(hd:∀σ H,Pv xs.length σ H->D.nx σ H):lq J g tb D σ H:=by
 obtain⟨a,⟨rfl,h⟩|⟨rfl,h⟩⟩:=w
 .exact yT Pv h0 (fun i σ H' _ p=>(hl i σ H' p).seq h) hs hd
 .exact xP Pv h0 (fun i σ H' _ p=>ar.sqt (hl i σ H' p) h) hs hd
end
theorem oB{δ ε:Type}{f:δ->Option ε}{d:δ}(hf:f d=none){r:List δ}:∀{l:List δ} {es:List ε},l.mapM f=some es->(l++d::r).mapM f=none
 |[],_,_=>by rw[Lg,a7,hf];rfl
 |a::l,es,h=>by
  rw[Lf,a7];rw[a7]at h;cases ha:f a with
  |none=>rfl
  |some b =>
   rw[ha]at h;cases hl:l.mapM f with
   |none=>rw[hl]at h;cases h
   |some m=>rw[Option.bind_some,oB hf hl];rfl
section
variable{g:TG}{D:Addr}
theorem wu(w:Walk K H J xs)(Pv:Nat->Hp->Prop)(h0:Pv 0 (upd H D (.lst [])))(hl:∀i H',Pv i H'->ar H H')(hs:∀i x H,xs[i]?=some x->Pv i H->g x (wipe σ vs) H fun σ2 H2=>wipe σ2 vs=wipe σ vs/\tt σ2 H2 fun b H3 =>
   if b=true then te σ2 H3 fun y H4=>∃acc,H4 D=some (.lst acc)/\acc.length<sizeLine/\Pv (i+1) (upd H4 D (.lst (acc++[y]))) else Pv (i+1) H3)(hd:∀H,Pv xs.length H->Q (.ref D) H):Dx J g tt te vs σ H Q D:=by
 obtain⟨a,⟨rfl,h⟩|⟨rfl,h⟩⟩:=w
 .exact Cm Pv h0 (fun i H' _ p=>(hl i H' p).seq h) hs hd
 .exact Em Pv h0 (fun i H' _ p=>ar.sqt (hl i H' p) h) hs hd
theorem Ep{δ ε:Type}(w:Walk K H J xs){R:Hp->V->δ->Prop}{S:Hp->V->ε->Prop}{ds:List δ}(hP:Paired (R H) xs ds)(hR:∀H H' v d,ar H H'->R H v d->R H' v d)(hS:∀H H' v d,Lk H H'->S H v d->S H' v d)(p:δ->Bool)(f:δ->Option ε)(hlen:ds.length<=16777216)(hD:H D=none)(hbad:(ds.filter p).mapM f=none->∀H',ar H H'->Bad H')(hs:∀(i:Nat) d x H' (k:VK) (kn:Hp->Prop),ds[i]?=some d->R H' x d->ar H H'->(p d=true->∀e y H4,f d=some e->ar H' H4->S H4 y e->k y H4)->(p d=true->f d=none->∀H4,ar H' H4->Bad H4)->(p d=false->kn H') ->
   g x (wipe σ vs) H' fun σ2 H2=>wipe σ2 vs=wipe σ vs/\tt σ2 H2 fun b H3=>if b=true then te σ2 H3 k else kn H3)(hd:∀es acc H',(ds.filter p).mapM f=some es->H' D=some (.lst acc)->Paired (S H') acc es->ar H H'->Q (.ref D) H'):Dx J g tt te vs σ H Q D:=by
 have split:∀i d,ds[i]?=some d->ds=ds.take i++d::ds.drop (i+1):=fun i d h=>by
  have hi:i<ds.length:=(JW.mp h).1;have e:ds[i]=d:=(JW.mp h).2;rw[<-e,List.getElem_cons_drop,List.take_append_drop]
 have snoc:∀i d,ds[i]?=some d->ds.take (i+1)=ds.take i++[d]:=fun i d h=>by
  rw[List.take_succ,h];rfl
 refine wu w (fun i H'=>∃es acc,((ds.take i).filter p).mapM f=some es/\H' D=some (.lst acc)/\Paired (S H') acc es/\ar H H') ?_ (fun i H' ⟨_,_,_,_,_,s⟩=>s) ?_ ?_
 .exact⟨[],[],by simp,af,.nil,aj hD⟩
 .rintro i x H' hx ⟨es,acc,hm,ha,hp,s⟩;obtain⟨d,hd1,hr⟩:=Paired.get hP hx;have hsn:=snoc i d hd1;refine hs i d x H' _ _ hd1 (hR _ _ _ _ s hr) s (fun pt e y H4 hf s4 hS4=>?_) (fun pt hf H4 s4=>?_) (fun pf=>?_)
  .have ha4:=s4 _ _ ha;have s5:ar H (upd H4 D (.lst (acc++[y]))):=a8 (s.trans s4) hD;have hmm:((ds.take (i+1)).filter p).mapM f=some (es++[e]):=by
    rw[hsn,List.filter_append,List.filter_cons_of_pos pt,List.filter_nil,oE,hm];simp[hf]
   have hal:acc.length=es.length:=Paired.length hp;have hel:=bB _ _ _ hm;have hfl:((ds.take i).filter p).length<=ds.length:=KH (List.length_filter_le _ _) (by rw[Kf];exact Nat.min_le_right _ _);have hil:i<ds.length:=(JW.mp hd1).1;have hfi:((ds.take i).filter p).length<=i:=KH (List.length_filter_le _ _) (by rw[Kf];exact Nat.min_le_left _ _);have l5:Lk H4 (upd H4 D (.lst (acc++[y]))):=jZ ha4;exact⟨acc,ha4,gZ (by lia),es++[e],acc++[y],hmm,af,Paired.snoc (Paired.imp (fun v d r=>hS _ _ v d ((iy s4).trans l5) r) hp) (hS _ _ _ _ l5 hS4),s5⟩
  .refine hbad ?_ H4 (s.trans s4);rw[split i d hd1,List.filter_append,List.filter_cons_of_pos pt];exact oB hf hm
  .refine⟨es,acc,?_,ha,hp,s⟩;rw[hsn,List.filter_append,List.filter_cons_of_neg (by simp[pf]),List.filter_nil,Kw];exact hm
 .rintro H' ⟨es,acc,hm,ha,hp,s⟩;have hl:xs.length=ds.length:=Paired.length hP;rw[hl,List.take_length]at hm;exact hd es acc H' hm ha hp s
end
section
variable{g:TG}{D:Addr}
theorem mapM_pure{δ ε:Type}(f:δ->ε):∀l:List δ,l.mapM (fun d=>some (f d))=some (l.map f)
 |[]=>rfl
 |a::l=>by rw[a7,mapM_pure f l];rfl
theorem jD{δ ε:Type}(w:Walk K H J xs){R:Hp->V->δ->Prop}{S:Hp->V->ε->Prop}{ds:List δ}(hP:Paired (R H) xs ds)(hR:∀H H' v d,ar H H'->R H v d->R H' v d)(hS:∀H H' v d,Lk H H'->S H v d->S H' v d)(f:δ->Option ε)(hlen:ds.length<=16777216)(hD:H D=none)(hbad:ds.mapM f=none->∀H',ar H H'->Bad H')(hs:∀(i:Nat) d x H' (k:VK),ds[i]?=some d->R H' x d->ar H H'->(∀e y H4,f d=some e->ar H' H4->S H4 y e->k y H4)->(f d=none->∀H4,ar H' H4->Bad H4) ->
   g x (wipe σ vs) H' fun σ2 H2=>wipe σ2 vs=wipe σ vs/\te σ2 H2 k)(hd:∀es acc H',ds.mapM f=some es->H' D=some (.lst acc)->Paired (S H') acc es->ar H H'->Q (.ref D) H'):Dx J g A9 te vs σ H Q D:=by
 have ef:ds.filter (fun _=>true)=ds:=List.filter_eq_self.mpr (by simp);refine Ep w hP hR hS (fun _=>true) f hlen hD (Bad:=Bad) (by rw[ef];exact hbad) (fun i d x H' k kn h1 h2 h3 h4 h5 _=>?_) (by rw[ef];exact hd);exact hs i d x H' k h1 h2 h3 (h4 rfl) (h5 rfl)
theorem ja{δ ε:Type}(w:Walk K H J xs){R:Hp->V->δ->Prop}{S:Hp->V->ε->Prop}{ds:List δ}(hP:Paired (R H) xs ds)(hR:∀H H' v d,ar H H'->R H v d->R H' v d)(hS:∀H H' v d,Lk H H'->S H v d->S H' v d)(f:δ->ε)(hlen:ds.length<=16777216)(hD:H D=none)(hs:∀(i:Nat) d x H' (k:VK),ds[i]?=some d->R H' x d->ar H H'->(∀y H4,ar H' H4->S H4 y (f d)->k y H4) ->
   g x (wipe σ vs) H' fun σ2 H2=>wipe σ2 vs=wipe σ vs/\te σ2 H2 k)(hd:∀acc H',H' D=some (.lst acc)->Paired (S H') acc (ds.map f)->ar H H'->Q (.ref D) H'):Dx J g A9 te vs σ H Q D:=by
 refine jD w hP hR hS (fun d=>some (f d)) hlen hD (Bad:=fun _=>False) (fun z=>by rw[mapM_pure]at z;cases z) (fun i d x H' k h1 h2 h3 h4 _=>?_) (fun es acc H' he=>?_)
 .exact hs i d x H' k h1 h2 h3 fun y H4 s=>h4 _ y H4 rfl s
 .rw[mapM_pure]at he;cases he;exact hd acc H'
noncomputable def In(_:Hp)(v:V)(n:Nat):Prop:=v=iv n
theorem zr{bs:List Nat}:Paired (In H) (nz bs) bs:=by
 induction bs with
 |nil=>exact .nil
 |cons b bs ih=>exact .cons rfl ih
theorem wA{acc:List V}{bs:List Nat}(h:Paired (In H) acc bs):acc=nz bs:=by
 induction bs generalizing acc with
 |nil=>cases h;rfl
 |cons b bs ih=>cases h with|cons r t=>rw[r,ih t];rfl
end
section
noncomputable def vY(K:Lq):List V->Hp->VK->Prop:=fun xs H Q=>∃p ys,xs=[.ref p]/\(aY K H p ys\/gG K H p ys)/\Q (.int ys.length) H
theorem GT(h:X.K=K):iq X (.builtin "len") (vY K):=h▸u9
noncomputable def x9(K:Lq):List V->Hp->VK->Prop:=fun xs H Q=>∃p ys,xs=[.ref p]/\((aY K H p ys/\∀l,H l=none->Q (.ref l) (upd H l (.tup ys)))\/(gG K H p ys/\Q (.ref p) H))
theorem fu(h:X.K=K):iq X (.type "tuple") (x9 K):=h▸sG
noncomputable def zj(K:Lq):List V->Hp->VK->Prop:=fun xs H Q=>∃p ys,xs=[.ref p]/\(aY K H p ys\/gG K H p ys)/\∀l,H l=none->Q (.ref l) (upd H l (.lst ys))
theorem EJ(h:X.K=K):iq X (.type "list") (zj K):=h▸u7
noncomputable def II:List V->Hp->VK->Prop:=fun xs H Q=>∃x,xs=[.str x]/\x.length=1/\Q (.int (x.cps.getD 0 0:Nat)) H
theorem GS:iq X (.builtin "ord") II:=C8
theorem GR(h:X.K=K)(hc:X.calm=true):iq X (.builtin "sum") (Gb K):=h▸GP hc
theorem EI(h:X.K=K)(hc:X.calm=true):iq X (.builtin "sum") (BK K):=h▸EH hc
theorem C7(h:X.K=K)(hc:X.calm=true):iq X (.builtin "all") (Gd K):=h▸GQ hc
theorem Eb{f:Str}(h:X.K=K)(he:PE X e ta)(hb:attributeBase e f X.env (eval e X.env)=eval e X.env):PE X (.Attribute e f pos) (DB K ta f):=h▸Gk he hb
theorem yh(h:X.K=K):ki X (compareOp .In) (G8 K false):=h▸Ap
theorem sW(h:X.K=K):ki X (compareOp .NotIn) (G8 K true):=h▸uq
end
section
theorem cD(h:aY K H a xs)(q:Q (.int xs.length) H):vY K [.ref a] H Q:=⟨a,xs,rfl,.inl h,q⟩
theorem fi(h:gG K H a xs)(q:Q (.int xs.length) H):vY K [.ref a] H Q:=⟨a,xs,rfl,.inr h,q⟩
theorem zC(h:aY K H a xs)(q:∀l,H l=none->Q (.ref l) (upd H l (.tup xs))):x9 K [.ref a] H Q:=⟨a,xs,rfl,.inl ⟨h,q⟩⟩
theorem kY{bs:List Nat}(h:aY K H a (nz bs))(q:∀v H',ar H H'->Bt H' v bs->Q v H'):x9 K [.ref a] H Q:=⟨a,nz bs,rfl,.inl ⟨h,fun l hl=>q _ _ (aj hl) Bt.new⟩⟩
theorem CC(h:Sq K H a xs)(q:∀l,H l=none->Q (.ref l) (upd H l (.lst xs))):zj K [.ref a] H Q:=⟨a,xs,rfl,h,q⟩
theorem HU{ns:List Int}(h:aY K H a (ns.map V.int))(q:Q (.int ns.sum) H):Gb K [.ref a] H Q:=⟨a,ns,rfl,h,q⟩
theorem GG{ns:List Int}(h:gG K H a (ns.map V.int))(q:Q (.int ns.sum) H):BK K [.ref a] H Q:=⟨a,ns,rfl,h,q⟩
theorem FI{bs:List Bool}(h:aY K H a (bs.map V.bl))(q:Q (.bl (bs.all id)) H):Gd K [.ref a] H Q:=⟨a,bs,rfl,h,q⟩
theorem jE(h:Rd H a (.tup xs))(q:∀v H',ar H H'->Tp H' v (fK xs lo hi)->Q v H'):DY K (.ref a) lo hi H Q:=by
 refine⟨a,xs,rfl,.inl h,fun e=>q _ _ (ar.refl _) ⟨a,rfl,?_⟩,fun _ p hp=>q _ _ (aj hp) Tp.new⟩;have:fK xs lo hi=xs:=by unfold fK;rw[e.1,e.2];simp
 rw[this];exact h
theorem wL(h:Rd H a (.tup xs))(h2:Rd H b (.tup ys))(hn:xs≠[])(hl:xs.length+ys.length<=16777216)(q:∀v H',ar H H'->Tp H' v (xs++ys)->Q v H'):Fv K (.ref a) (.ref b) H Q :=
 ⟨a,b,xs,ys,rfl,rfl,.inl h,.inl h2,hn,az hl,fun e=>q _ _ (ar.refl _) ⟨a,rfl,by rw[e,Kw];exact h⟩,fun _ p hp=>q _ _ (aj hp) Tp.new⟩
theorem fq(xs:List V)(k:Nat):fK xs (some (k:Int)) none=xs.drop k:=by
 unfold fK;rw[HT.mS,HT.qp];by_cases h:k<=xs.length
 .rw[Nat.min_eq_left h,List.take_of_length_le (by rw[J4];lia)]
 .rw[Nat.min_eq_right (by lia),List.drop_of_length_le (JY _),List.drop_of_length_le (by lia)];simp
theorem xh(xs:List V)(k:Nat):fK xs none (some (k:Int))=xs.take k:=by
 unfold fK;rw[HT.mS,HT.qp,List.drop_zero,Nat.sub_zero,<-List.take_eq_take_min]
theorem zO(xs:List V)(i j:Nat):fK xs (some (i:Int)) (some (j:Int))=(xs.drop i).take (j-i):=by
 unfold fK;rw[HT.mS,HT.mS];by_cases h:i<=xs.length
 .rw[Nat.min_eq_left h];by_cases h2:j<=xs.length
  .rw[Nat.min_eq_left h2]
  .rw[Nat.min_eq_right (by lia),List.take_of_length_le (by rw[J4];lia),List.take_of_length_le (by rw[J4];lia)]
 .have e:min i xs.length=xs.length:=by lia
  rw[e,List.drop_of_length_le (JY _),List.drop_of_length_le (by lia)];simp
end
section
noncomputable def dB(bs:List Nat):PyData:=.tuple (bs.map fun(n:Nat)=>PyData.int n)
noncomputable def dN(n:List (List Nat)):PyData:=.tuple (n.map dB)
theorem zH:∀bs:List Nat,n0 K H (nz bs) (bs.map fun(n:Nat)=>PyData.int n)
 |[]=>.nil
 |b::bs=>.cons (.int _) (zH bs)
theorem Bt.dp{bs:List Nat}(h:Bt H v bs):Dp K H v (dB bs):=by
 obtain⟨a,rfl,r⟩:=h;exact .tup (.inl r) (zH bs)
theorem wV:∀{vs:List V} {n:List (List Nat)},Paired (Bt H) vs n->n0 K H vs (n.map dB)
 |_,_,.nil=>.nil
 |_,_,.cons r t=>.cons r.dp (wV t)
theorem Nm.dp(h:Nm H v n):Dp K H v (dN n):=by
 obtain⟨vs,⟨a,rfl,r⟩,p⟩:=h;exact .tup (.inl r) (wV p)
theorem rA:∀a b:List Nat,PyData.eqvAll (a.map fun(n:Nat)=>PyData.int n) (b.map fun(n:Nat)=>PyData.int n)=decide (a=b)
 |[],[]=>by rw[Lh,PyData.eqvAll];rfl
 |[],b::bs=>by rw[Lh,J5,PyData.eqvAll];rfl;all_goals simp
 |a::as,[]=>by rw[Lh,J5,PyData.eqvAll];rfl;all_goals simp
 |a::as,b::bs=>by
  rw[J5,J5,PyData.eqvAll,PyData.eqv,rA as bs,Bool.eq_iff_iff];simp only[Kt,beq_iff_eq,Lo,List.cons.injEq,Int.natCast_inj]
theorem yB(a b:List Nat):PyData.eqv (dB a) (dB b)=decide (a=b):=by
 rw[dB,dB,PyData.eqv];exact rA a b
theorem zG:∀a b:List (List Nat),PyData.eqvAll (a.map dB) (b.map dB)=decide (a=b)
 |[],[]=>by rw[Lh,PyData.eqvAll];rfl
 |[],b::bs=>by rw[Lh,J5,PyData.eqvAll];rfl;all_goals simp
 |a::as,[]=>by rw[Lh,J5,PyData.eqvAll];rfl;all_goals simp
 |a::as,b::bs=>by
  rw[J5,J5,PyData.eqvAll,yB,zG as bs,Bool.eq_iff_iff];simp only[Kt,Lo,List.cons.injEq]
theorem yA(a b:List (List Nat)):PyData.eqv (dN a) (dN b)=decide (a=b):=by
 rw[dN,dN,PyData.eqv];exact zG a b
theorem lay_ints:∀a:List Nat,PyData.canLayAll0 (a.map fun(n:Nat)=>PyData.int n)=true
 |[]=>by rw[Lh,PyData.canLayAll0]
 |a::as=>by rw[J5,PyData.canLayAll0,PyData.canLay0,lay_ints as];rfl
theorem uG:∀a:List (List Nat),PyData.canLayAll0 (a.map dB)=true
 |[]=>by rw[Lh,PyData.canLayAll0]
 |a::as=>by rw[J5,PyData.canLayAll0,dB,PyData.canLay0,lay_ints,uG as];rfl
theorem nH:∀a:List Nat,PyData.depthAll (a.map fun(n:Nat)=>PyData.int n)=0
 |[]=>by rw[Lh,PyData.depthAll]
 |a::as=>by rw[J5,PyData.depthAll,PyData.depth,nH as];rfl
theorem uT:∀a:List (List Nat),PyData.depthAll (a.map dB)<=1
 |[]=>by rw[Lh,PyData.depthAll];decide
 |a::as=>by
  have:=uT as;rw[J5,PyData.depthAll,dB,PyData.depth,nH];lia
theorem lG(a:List Nat):SeqAt.shaped (dB a)=true:=by
 unfold SeqAt.shaped;rw[dB,PyData.canLay0,lay_ints,PyData.depth,nH];rfl
theorem lF(a:List (List Nat)):SeqAt.shaped (dN a)=true:=by
 have:=uT a;unfold SeqAt.shaped;rw[dN,PyData.canLay0,uG,PyData.depth];simp only[Bool.true_and,Lo];lia
theorem FH{u:V}(h1:Nm H v n)(h2:Nm H u m)(q:Q (.bl (decide (n=m))) H):Gc K v u H Q:=⟨dN n,dN m,h1.dp,h2.dp,lF _,lF _,by rw[yA];exact q⟩
theorem FG{u:V}(h1:Nm H v n)(h2:Nm H u m)(q:Q (.bl (!decide (n=m))) H):BL K v u H Q:=⟨dN n,dN m,h1.dp,h2.dp,lF _,lF _,by rw[yA];exact q⟩
theorem wJ{u:V}{n m:List Nat}(h1:Bt H v n)(h2:Bt H u m)(q:Q (.bl (decide (n=m))) H):Gc K v u H Q:=⟨dB n,dB m,h1.dp,h2.dp,lG _,lG _,by rw[yB];exact q⟩
theorem HW{u:V}{n m:List Nat}(h1:Bt H v n)(h2:Bt H u m)(q:Q (.bl (!decide (n=m))) H):BL K v u H Q:=⟨dB n,dB m,h1.dp,h2.dp,lG _,lG _,by rw[yB];exact q⟩
theorem Nm.nil:Nm (upd H p (.tup [])) (.ref p) []:=⟨[],Tp.new,.nil⟩
end
theorem BF{t:TS}(h:u D σ H)(k:∀N:St->Hp->Prop,N σ H->t {D with nx:=N} σ H):Bb t u D σ H:=k _ h
theorem qm{t:TS}(p:Prop)(h:p->u D σ H)(k:∀N:St->Hp->Prop,(p->N σ H)->t {D with nx:=N} σ H):Bb t u D σ H:=k _ h
theorem aX:(if True then A else B)=A:=rfl
theorem aL:(if False then A else B)=B:=rfl
theorem En{g:TG}{D:Addr}(Pv:Nat->Hp->Prop)(h0:Pv 0 (upd H1 D (.lst [])))(hs:∀i c H,x.cps[i]?=some c->Pv i H->g (.str ⟨#[c]⟩) (wipe σ vs) H fun σ2 H2=>wipe σ2 vs=wipe σ vs/\tt σ2 H2 fun b H3 =>
   if b=true then te σ2 H3 fun y H4=>∃acc,H4 D=some (.lst acc)/\acc.length<sizeLine/\Pv (i+1) (upd H4 D (.lst (acc++[y]))) else Pv (i+1) H3)(hd:∀H,Pv x.cps.size H->Q (.ref D) H):Dx (IE x) g tt te vs σ H1 Q D:=by
 refine⟨fun i m H=>m=x.cps.size-i/\i<=x.cps.size/\Pv i H,⟨x.cps.size,by simp,Kq _,h0⟩,?_⟩;rintro i m H ⟨rfl,hi,p⟩;by_cases hlt:i<x.cps.size
 .refine .inr ⟨hlt,Pv (i+1),fun H' p'=>⟨x.cps.size-(i+1),by lia,rfl,hlt,p'⟩,fun v H' y=>?_⟩;obtain⟨e,c,hc,rfl⟩:=y;subst e;exact hs i c _ hc p
 .have e:i=x.cps.size:=by lia
  subst e;exact .inl ⟨JY _,hd H p⟩
theorem cf{ta:TA}:Cv K ta σ H R=ta σ H fun vs H1=>AE vs fun a=>Dj K H1 a R:=rfl
theorem cg{ta:TA}:Cw K ta σ H R=ta σ H fun vs H1=>AE vs fun a=>∃xs,aY K H1 a xs/\R (FK (fun H xs=>aY K H a xs) 1) H1:=rfl
noncomputable def xr(K:Lq)(H:Hp)(J:It)(k:Nat)(xs:List V):Prop:=∃S:Hp->List V->Prop,J=FK S k/\S H xs/\∀H',ar H H'->S H' xs
theorem Ib(h:Sq K H0 a xs)(s:ar H0 H)(q:∀J,xr K H0 J 0 xs->R J H):Dj K H a R:=by
 rcases h with h|h
 .exact .inl ⟨⟨_,s.seq h⟩,q _ ⟨_,rfl,h,fun H' s=>s.seq h⟩⟩
 .exact .inr ⟨⟨_,ar.sqt s h⟩,q _ ⟨_,rfl,h,fun H' s=>ar.sqt s h⟩⟩
theorem xr.l(h:aY K H a xs):xr K H (FK (fun H xs=>aY K H a xs) k) k xs:=⟨_,rfl,h,fun H' s=>s.seq h⟩
section
variable{g:TG}{tb:TS}
theorem E6(w:xr K H0 J k xs)(Pv:Nat->St->Hp->Prop)(h0:Pv 0 σ H)(hl:∀i σ H',Pv i σ H'->ar H0 H')(hs:∀i x σ H T,xs[i]?=some x->Pv i σ H->H T=none->g (.ref T) σ (upd H T (.tup [.int ((i+k:Nat):Int),x])) fun σ2 H2=>tb {D with nx:=Pv (i+1),ct:=Pv (i+1),bk:=D.nx} σ2 H2)(hd:∀σ H,Pv xs.length σ H->D.nx σ H):lq J g tb D σ H:=by
 obtain⟨S,rfl,_,st⟩:=w;refine⟨fun i m σ H=>m=xs.length-i/\i<=xs.length/\Pv i σ H,⟨xs.length,by simp,Kq _,h0⟩,?_⟩;rintro i m σ H ⟨rfl,hi,p⟩;have q:=st _ (hl i σ H p);by_cases hlt:i<xs.length
 .refine .inr ⟨⟨xs,xs[i],q,by simp[hlt]⟩,Pv (i+1),fun σ' H' p'=>⟨xs.length-(i+1),by lia,rfl,hlt,p'⟩,fun v H' y=>?_⟩;obtain⟨T,x,rfl,hT,rfl,hx⟩:=y;exact hs i x σ _ T (hx xs q) p hT
 .have e:i=xs.length:=by lia
  subst e;exact .inl ⟨⟨xs,q,JY _⟩,hd σ H p⟩
end
theorem zB{T:Addr}{x:V}{i j:Nat}{Q:St->Hp->Prop}(h:H T=some (.tup [x,y]))(q:Q ((σ.set i (some x)).set j (some y)) H):HX K 2 (CG (mh i) (CG (mh j) HZ)) (.ref T) σ H Q :=
 ⟨T,_,rfl,gG.of h,rfl,x,[y],rfl,y,[],rfl,rfl,q⟩
theorem tq(h:aY K H a xs)(q:∀v H',ar H H'->(∃b,v = .ref b/\H' b=some (.lst (fK xs lo hi)))->Q v H'):qy K (.ref a) lo hi H Q:=⟨a,xs,rfl,h,fun p hp=>q _ _ (aj hp) ⟨p,rfl,af⟩⟩
theorem uA(bs:List Nat)(k:Nat):(nz bs).drop k=nz (bs.drop k):=by unfold nz;rw[List.map_drop]
theorem pZ(bs:List Nat)(k:Nat):(nz bs).take k=nz (bs.take k):=by unfold nz;rw[List.map_take]
theorem eF(a b:List Nat):nz a++nz b=nz (a++b):=by unfold nz;rw[List.map_append]
theorem Ca{a b:List Nat}(h:nz a=nz b):a=b:=by
 induction a generalizing b with
 |nil=>cases b with
  |nil=>rfl
  |cons=>cases h
 |cons x a ih=>cases b with
  |nil=>cases h
  |cons y b =>
   have h':iv x::nz a=iv y::nz b:=h;injection h' with h1 h2
   have h3:(x:Int)=(y:Int):=V.int.inj h1;rw[ih h2,Int.ofNat.inj h3]
theorem rJ(bs:List Nat)(i j:Nat):fK (nz bs) (some (i:Int)) (some (j:Int))=nz ((bs.take j).drop i):=by rw[zO,uA,pZ,List.drop_take]
theorem p6(bs:List Nat)(i:Nat):fK (nz bs) (some (i:Int)) none=nz (bs.drop i):=by rw[fq,uA]
theorem zN(bs:List Nat)(i:Nat):fK (nz bs) none (some (i:Int))=nz (bs.take i):=by rw[xh,pZ]
theorem oX{l:Addr}(h:H l=some (.lst xs)):AX K "list" (.ref l) H:=.inl ⟨rfl,_,aY.of h⟩
theorem goApp{l:Addr}(h:H l=some (.lst xs))(hl:xs.length<16777216)(q:Q .non (upd H l (.lst (xs++[y])))):iB (.ref l) [y] H Q:=⟨l,xs,y,rfl,rfl,h,gZ hl,q⟩
theorem wI{l:Addr}(h:H l=some (.lst xs))(h2:H b=some (.lst ys))(hl:xs.length+ys.length<=16777216)(q:Q .non (upd H l (.lst (xs++ys)))):ug (.ref l) [.ref b] H Q:=⟨l,b,xs,ys,rfl,rfl,h,h2,az hl,q⟩
theorem jn{l:Addr}(h:H l=some (.lst xs))(h2:gG K H b ys)(hl:xs.length+ys.length<=16777216)(q:Q .non (upd H l (.lst (xs++ys)))):qz K (.ref l) [.ref b] H Q:=⟨l,b,xs,ys,rfl,rfl,h,h2,az hl,q⟩
theorem t9{t:TS}(R:St->Hp->Prop)(h:∀σ' H',R σ' H'->u D σ' H')(k:∀N:St->Hp->Prop,(∀σ' H',R σ' H'->N σ' H')->t {D with nx:=N} σ H):Bb t u D σ H:=k _ h
theorem mH(h:H a=some (.lst xs))(h2:H b=some (.lst ys))(hl:xs.length+ys.length<=16777216)(q:∀p,H p=none->Q (.ref p) (upd H p (.lst (xs++ys)))):uh (.ref a) (.ref b) H Q:=⟨a,b,xs,ys,rfl,rfl,h,h2,az hl,q⟩
theorem CB{x:V}{z:Int}(h:H a=some (.lst [x]))(hz:z=(k:Int))(hl:k<=16777216)(q:∀p,H p=none->Q (.ref p) (upd H p (.lst (List.replicate k x)))):HE (.ref a) (.int z) H Q:=by
 subst hz;have e:(List.replicate k [x]).flatten=List.replicate k x:=by
  clear hl q;induction k with
  |zero=>rfl
  |succ k ih=>rw[Le,List.flatten_cons,ih,Le];rfl
 refine⟨a,k,[x],rfl,rfl,h,by lia,by lia,az (by simp;lia),fun p hp=>?_⟩;rw[Lj,e];exact q p hp
structure xt (P:Program) (w:World) (K:Lq) (mg:Str->Option Value) (base:Heap) (C:Addr) (x:Str) (k:Nat) (ps:List Str) (sp:Sp):Prop where
 ex:∃f fd,pV P w K mg base (tJ P w) k f fd ps sp/\Dl K C x f/\Binds K fd ps []
structure E3 (P:Program) (w:World) (K:Lq) (mg:Str->Option Value) (base:Heap) (C:Addr) (k:Nat) (ps:List Str) (sp:Sp):Prop where
 ex:∃f fd,pV P w K mg base (tJ P w) k f fd ps sp/\Mk K C f/\Binds K fd ps []
section
theorem mL.mal{st:Stmt}(D:mL K C x qual st ps)(S:fR N ps (aE st))(len:∀vs H Q E,sp vs H Q E->vs.length=ps.length)(hbody:∀(f:Addr) (cdv:Value) (A:Around) (outer:List Env) (s:Shared) (H:Hp) (vs:List V) (Q:VK) (E:XK),fj k (A.deeper (envOfC qual (aE st) s.heap.objs.size f cdv))->sp vs H Q E ->
   ∃t,sI (jq (tJ P w) P w K mg base N qual (aE st) f cdv A outer s H E) (cI st) t/\t {nx:=fun _ H'=>Q .non H',rt:=Q} (start N vs) H):xt P w K mg base C x (k+1) ps sp:=by
 obtain⟨f,fd,F,m,b⟩:=D.ex;exact⟨f,fd,F.okx S len fun cdv A outer s H vs Q E hr h=>hbody f cdv A outer s H vs Q E hr h,m,b⟩
theorem yO.ini{st:Stmt}(D:yO K C qual st ps)(S:fR N ps (aE st))(len:∀vs H Q E,sp vs H Q E->vs.length=ps.length)(hbody:∀(f:Addr) (cdv:Value) (A:Around) (outer:List Env) (s:Shared) (H:Hp) (vs:List V) (Q:VK) (E:XK),fj k (A.deeper (envOfC qual (aE st) s.heap.objs.size f cdv))->sp vs H Q E ->
   ∃t,sI (jq (tJ P w) P w K mg base N qual (aE st) f cdv A outer s H E) (cI st) t/\t {nx:=fun _ H'=>Q .non H',rt:=Q} (start N vs) H):E3 P w K mg base C (k+1) ps sp:=by
 obtain⟨f,fd,F,m,b⟩:=D.ex;exact⟨f,fd,F.okx S len fun cdv A outer s H vs Q E hr h=>hbody f cdv A outer s H vs Q E hr h,m,b⟩
end
section
variable{m:Str}{p apos:Pos}{o:Expr}{es:List Expr}{t:TA}
theorem BV(c:E3 X.prog X.w X.K X.mg X.base C k ps sp)(hm:X.mg x=some (.ref C))(hr:fj (k+1) X.A)(hA:Acc X E)(ha:PA X (e::es) t)(hg:Gl X x:=by rfl)(hdb:(x==("__debug__":Str))=false:=by decide)(he:starEach (e::es) X.env=(false,eval e X.env)::starEach es X.env:=by rfl)(hpl:(backTo pos (starEach es X.env)).any (·.1)=false:=by rfl):
  PE X (.Call (.Name x p) (e::es) [] pos) (vL C sp [] E t):=by
 obtain⟨f,fd,F,M,b⟩:=c.ex;exact D8 M F hr hg hm b .nil hA.passes ha hdb he hpl
theorem BU(c:E3 X.prog X.w X.K X.mg X.base C k ps sp)(hm:X.mg x=some (.ref C))(hr:fj (k+1) X.A)(hA:Acc X E)(hg:Gl X x:=by rfl)(hdb:(x==("__debug__":Str))=false:=by decide):PE X (.Call (.Name x p) [] [] pos) (vL C sp [] E vJ):=by
 obtain⟨f,fd,F,M,b⟩:=c.ex;exact BX M F hr hg hm b .nil hA.passes hdb
theorem fI(ho:PE X o ta)(c:xt X.prog X.w X.K X.mg X.base C m k ps sp)(hc:p7 X.K C)(hr:fj k X.A)(hA:Acc X E)(ha:PA X (e::es) t)(hst:starEach (e::es) X.env=(false,eval e X.env)::starEach es X.env:=by rfl)(hpl:(backTo pos (starEach es X.env)).any (·.1)=false:=by rfl)(ht:eval (.Call (.Attribute o m apos) (e::es) [] pos) X.env=(do
   let ov <-eval o X.env
   standAt apos.atName
   let (f,first) <-holding [ov] (getMethod ov m pl)
   callWith pos f first (backTo pos (starEach (e::es) X.env)) (backToKw pos (keywordEach [] X.env))):=by rfl):
  PE X (.Call (.Attribute o m apos) (e::es) [] pos) (vK C m sp [] E ta t):=by
 obtain⟨f,fd,F,M,b⟩:=c.ex;exact D7 ho hc M F hr b .nil hA.passes ha hst hpl ht
theorem Gj(ho:PE X o ta)(c:xt X.prog X.w X.K X.mg X.base C m k ps sp)(hc:p7 X.K C)(hr:fj k X.A)(hA:Acc X E)(ht:eval (.Call (.Attribute o m apos) [] [] pos) X.env=(do
   let ov <-eval o X.env
   standAt apos.atName
   let (f,first) <-holding [ov] (getMethod ov m pl)
   callWith pos f first (backTo pos (starEach [] X.env)) (backToKw pos (keywordEach [] X.env))):=by rfl):
  PE X (.Call (.Attribute o m apos) [] [] pos) (vK C m sp [] E ta vJ):=by
 obtain⟨f,fd,F,M,b⟩:=c.ex;exact BW ho hc M F hr b .nil hA.passes ht
end
theorem bY{t:TA}:vL C sp dvs E t σ H Q=t σ H fun vs H1=>∀x dx,H1 x=none->H1 dx=none->dx≠x ->
 sp (.ref x::(vs++dvs)) (upd (upd H1 dx (.own x)) x (.ins C dx [])) (fun v H2=>v = .non/\Q (.ref x) H2) (E σ):=rfl
theorem bX{m:Str}{t:TA}:vK C m sp dvs E ta t σ H Q=ta σ H fun x H1=>kh x fun a=>jg C m H1 a/\t σ H1 fun vs H2=>sp (x::(vs++dvs)) H2 Q (E σ):=rfl
theorem dk{f:Str}:DB K ta f σ H Q=ta σ H fun x H1=>kh x fun a=>dM K f H1 a Q:=rfl
theorem bR{f:Str}:HA K ta tv f D σ H=tv σ H fun y H1=>ta σ H1 fun x H2=>kh x fun a=>pB K f y H2 a (D.nx σ):=rfl
section
variable{f:Str}{fs:List (Str×V)}
theorem a0(h:H a=some (.ins C dx fs))(cl:p7 K C)(na:aO K C f)(lk:fs.lookup f=some v)(q:Q v H):dM K f H a Q:=⟨C,dx,fs,v,h,cl,na,lk,q⟩
theorem fb{Q:Hp->Prop}(h:H a=some (.ins C dx fs))(cl:p7 K C)(na:aO K C f)(hl:fs.length<1000)(q:Q (upd H a (.ins C dx (fm f y fs)))):pB K f y H a Q:=⟨C,dx,fs,h,cl,na,hl,q⟩
end
theorem cu:Fi td ty σ H Q=td σ H fun x H1=>ty σ H1 fun y H2=>kh x fun a=>Jq H2 y a Q:=rfl
theorem dq:Hs ty td σ H Q=ty σ H fun y H1=>td σ H1 fun x H2=>kh x fun a=>xB H2 y a fun o=>Q (.bl o.isSome) H2:=rfl
theorem cq:yX ty td σ H Q=ty σ H fun y H1=>td σ H1 fun x H2=>kh x fun a=>xB H2 y a fun o=>Q (.bl (!o.isSome)) H2:=rfl
theorem cp:Fp td ty tv D σ H=tv σ H fun v H1=>td σ H1 fun x H2=>ty σ H2 fun y H3=>kh x fun a=>yQ H3 y v a (D.nx σ):=rfl
theorem bu:FF td σ H R=td σ H fun x H1=>kh x fun d=>∃o,(∃kvs,H1 d=some (.frz o (.dK kvs))/\R (IF d o kvs) H1)\/∃kvs,H1 d=some (.frz o (.dT kvs))/\R (E2 d o kvs) H1:=rfl
theorem dn:Be σ H Q=∀p,H p=none->Q (.ref p) (upd H p (.dK [])):=rfl
theorem dm:Bd σ H Q=∀p,H p=none->Q (.ref p) (upd H p (.dT [])):=rfl
theorem du{tx:TE}:Bf td ty tx σ H Q=td σ H fun x H1=>kh x fun a=>He H1 a/\ty σ H1 fun y H2=>tx σ H2 fun z H3=>∃o,vx H3 a y o/\Q (o.getD z) H3:=rfl
theorem cv{tx:TE}:Fj td ty tx σ H Q=td σ H fun x H1=>kh x fun a=>He H1 a/\ty σ H1 fun y H2=>tx σ H2 fun z H3=>E4 H3 a y z Q:=rfl
theorem DA{o:Obj}{kvs:List (Key×V)}{g:TG}{tb:TS}(Pv:Nat->St->Hp->Prop)(h0:Pv 0 σ H)(hl:∀i σ H',Pv i σ H'->H' d=some (.frz o (.dK kvs)))(hs:∀i k v σ H,kvs[i]?=some (k,v)->Pv i σ H->g (kV k) σ H fun σ2 H2=>tb {D with nx:=Pv (i+1),ct:=Pv (i+1),bk:=D.nx} σ2 H2)(hd:∀σ H,Pv kvs.length σ H->D.nx σ H):lq (IF d o kvs) g tb D σ H:=by
 refine⟨fun i m σ H=>m=kvs.length-i/\i<=kvs.length/\Pv i σ H,⟨kvs.length,by simp,Kq _,h0⟩,?_⟩;rintro i m σ H ⟨rfl,hi,p⟩;have q:=hl i σ H p;by_cases hlt:i<kvs.length
 .refine .inr ⟨⟨q,hlt⟩,Pv (i+1),fun σ' H' p'=>⟨kvs.length-(i+1),by lia,rfl,hlt,p'⟩,fun v H' y=>?_⟩;obtain⟨rfl,k,v,hk,rfl⟩:=y;exact hs i k v σ _ hk p
 .have e:i=kvs.length:=by lia
  subst e;exact .inl ⟨⟨q,JY _⟩,hd σ H p⟩
theorem tV{δ ε:Type}{g:TG}{tb:TS}(w:Walk K H0 J xs){R:Hp->V->δ->Prop}{ds:List δ}(hP:Paired (R H0) xs ds)(hR:∀H H' v d,ar H H'->R H v d->R H' v d)(f:δ->Option ε)(Iv:List ε->St->Hp->Prop)(h0:Iv [] σ H)(hI:∀es σ H',Iv es σ H'->ar H0 H')(hbad:ds.mapM f=none->∀H',ar H0 H'->Bad H')(hs:∀(i:Nat) d x es σ H' (N:St->Hp->Prop),ds[i]?=some d->es.length=i->R H' x d->Iv es σ H'->(∀e σ2 H2,f d=some e->Iv (es++[e]) σ2 H2->N σ2 H2)->(f d=none->∀H2,ar H0 H2->Bad H2) ->
   g x σ H' fun σ2 H2=>tb {D with nx:=N,ct:=N,bk:=D.nx} σ2 H2)(hd:∀es σ H',ds.mapM f=some es->Iv es σ H'->D.nx σ H'):lq J g tb D σ H:=by
 have snoc:∀(i:Nat) d,ds[i]?=some d->ds.take (i+1)=ds.take i++[d]:=fun i d h=>by rw[List.take_succ,h];rfl
 have hl:xs.length=ds.length:=Paired.length hP;refine gW w (fun i σ H'=>∃es,(ds.take i).mapM f=some es/\i<=ds.length/\Iv es σ H') ⟨[],by simp,Kq _,h0⟩ (fun i σ H' ⟨es,_,_,h⟩=>hI _ _ _ h) ?_ ?_
 .rintro i x σ H' hx ⟨es,hm,hi,hv⟩;obtain⟨d,hd1,hr⟩:=Paired.get hP hx;have hil:i<ds.length:=(JW.mp hd1).1;have hel:=bB _ _ _ hm;rw[Kf]at hel;refine hs i d x es σ H' _ hd1 (by lia) (hR _ _ _ _ (hI _ _ _ hv) hr) hv (fun e σ2 H2 hf h2=>⟨es++[e],?_,by lia,h2⟩) fun hf H2 s2=>hbad ?_ H2 s2
  .rw[snoc i d hd1,oE,hm];simp[hf]
  .have hi:i<ds.length:=hil;have e:ds[i]=d:=(JW.mp hd1).2;have:ds=ds.take i++d::ds.drop (i+1):=by rw[<-e,List.getElem_cons_drop,List.take_append_drop]
   rw[this];exact oB hf hm
 .rintro σ H' ⟨es,hm,_,hv⟩;rw[hl,List.take_length]at hm;exact hd es σ H' hm hv
theorem uR{α:Type}{p:α->Bool}:∀{l:List α} {i:Nat} {d:α},(∀j e,j<i->l[j]?=some e->p e=false)->l[i]?=some d->p d=true->l.find? p=some d
 |[],_,_,_,h,_=>by cases h
 |a::l,0,d,_,h,hp=>by cases h;rw[List.find?_cons,hp]
 |a::l,i+1,d,hn,h,hp=>by
  rw[List.find?_cons,hn 0 a (by lia) rfl];exact uR (i:=i) (fun j e hj he=>hn (j+1) e (by lia) (by simpa using he)) (by simpa using h) hp
noncomputable def wo(H:Hp)(b:Addr):Hp:=fun x=>if x=b then none else H x
theorem cF:wo H b b=none:=by unfold wo;rw[JX rfl]
theorem aZ{x:Addr}(h:x≠b):wo H b x=H x:=by unfold wo;rw[JU h]
theorem fD:ar (wo H b) H:=fun x o e=>by
 by_cases h:x=b
 .subst h;rw[cF]at e;cases e
 .rwa [aZ h]at e
theorem ik(s:ar H H2)(h:H b=none):ar H (wo H2 b):=fun x o e=>by
 rw[aZ (aH e h)];exact s x o e
theorem xF{o:HO}(s:ar (wo H b) H'):ar (wo H b) (upd H' b o):=a8 s cF
theorem bj:Cu td σ H R=td σ H fun x H1=>kh x fun d=>∃o kvs,H1 d=some (.frz o (.dT kvs))/\R (E0 d o kvs) H1:=rfl
theorem bh:E8 td σ H Q=td σ H fun x H1=>kh x fun d=>∃kvs,H1 d=some (.dT kvs)/\∀p,H1 p=none->Q (.ref p) (upd H1 p (.lst (kvs.map (·.2)))):=rfl
theorem bx{tk:TE}:Bc tk tv σ H Q=∀p,H p=none->tk σ (upd H p (.dT [])) fun x H1=>tv σ H1 fun y H2=>kh x fun b=>H2 p=some (.dT [])/\∃k,vA H2 b k/\Q (.ref p) (upd H2 p (.dT [(k,y)])):=rfl
theorem cj{to ti:TE}{t:EO}{Q:St->Hp->Prop}:HY to ti t v σ H Q=to σ H fun o H1=>ti σ H1 fun i H2=>t o i v H2 fun H3=>Q σ H3:=rfl
theorem aV:ua E C te D σ H=te σ H fun y H1=>∀d,H1 d=none->E σ (.ref C) (some d) (upd H1 d (.xd [("line",y)])):=rfl
theorem bP{th:Addr->Obj->(Value->Shared->Prop)->TS}:Hg C tb th D σ H=∀p0,tb (fun σ' cls dx H'=>cls = .ref C/\dx=none/\∀ea oe xe,th ea oe xe D σ' H') p0 D σ H:=rfl
theorem bO{CL CS:Addr}{i:Nat}{th1:Addr->Addr->Obj->(Value->Shared->Prop)->TS}{th2:Addr->Obj->(Value->Shared->Prop)->TS}:E9 CL CS i tb th1 th2 D σ H=∀p0,tb (fun σ' cls dx H'=>(cls = .ref CL/\∃d,dx=some d/\∀ea oe xe,th1 ea d oe xe (D.un i) (σ'.set i (some (.ref ea))) H')\/(cls = .ref CS/\∀ea oe xe,th2 ea oe xe D σ' H')) p0 D σ H:=rfl
theorem bZ{ea:Addr}:Fg ta ea d σ H Q=ta σ H fun y H1=>y = .ref ea/\∃fs k,H1 d=some (.xd fs)/\fs.lookup ("line":Str)=some (V.int k)/\Q (.int k) H1:=rfl
theorem g7{p:List (Addr×Obj)}:(X.tr E p).K=X.K:=rfl
theorem eJ{p:List (Addr×Obj)}:(X.tr E p).mg=X.mg:=rfl
theorem ia{e:Value}{p:List (Addr×Obj)}:(X.hd e p xe).K=X.K:=rfl
theorem e9{e:Value}{p:List (Addr×Obj)}:(X.hd e p xe).mg=X.mg:=rfl
section
variable{st:Stmt}
theorem Def.cl(D:Def K mg x st ps)(N:List Str)(hbody:N.Nodup->∀(f:Addr) (cdv:Value) (A:Around) (outer:List Env) (s:Shared) (H:Hp) (vs:List V) (Q:VK) (E:XK),fj k (A.deeper (envOfC x (aE st) s.heap.objs.size f cdv))->sp vs H Q E ->
   ∃t,sI (jq (tJ P w) P w K mg base N x (aE st) f cdv A outer s H E) (cI st) t/\t {nx:=fun _ H'=>Q .non H',rt:=Q} (start N vs) H)(S:fR N ps (aE st):=by walk_at "s")(len:∀vs H Q E,sp vs H Q E->vs.length=ps.length:=by walk_at "l"):gz P w K mg base x (k+1) ps sp:=D.cal S len (hbody S.nd)
theorem mL.cl(D:mL K C x qual st ps)(N:List Str)(hbody:N.Nodup->∀(f:Addr) (cdv:Value) (A:Around) (outer:List Env) (s:Shared) (H:Hp) (vs:List V) (Q:VK) (E:XK),fj k (A.deeper (envOfC qual (aE st) s.heap.objs.size f cdv))->sp vs H Q E ->
   ∃t,sI (jq (tJ P w) P w K mg base N qual (aE st) f cdv A outer s H E) (cI st) t/\t {nx:=fun _ H'=>Q .non H',rt:=Q} (start N vs) H)(S:fR N ps (aE st):=by walk_at "s")(len:∀vs H Q E,sp vs H Q E->vs.length=ps.length:=by walk_at "l"):xt P w K mg base C x (k+1) ps sp:=D.mal S len (hbody S.nd)
theorem yO.cl(D:yO K C qual st ps)(N:List Str)(hbody:N.Nodup->∀(f:Addr) (cdv:Value) (A:Around) (outer:List Env) (s:Shared) (H:Hp) (vs:List V) (Q:VK) (E:XK),fj k (A.deeper (envOfC qual (aE st) s.heap.objs.size f cdv))->sp vs H Q E ->
   ∃t,sI (jq (tJ P w) P w K mg base N qual (aE st) f cdv A outer s H E) (cI st) t/\t {nx:=fun _ H'=>Q .non H',rt:=Q} (start N vs) H)(S:fR N ps (aE st):=by walk_at "s")(len:∀vs H Q E,sp vs H Q E->vs.length=ps.length:=by walk_at "l"):E3 P w K mg base C (k+1) ps sp:=D.ini S len (hbody S.nd)
end
noncomputable def D1:R2:=fun x y H Q=>match x,y with
 |.int i,.int j=>Q (.bl (decide (i=j))) H
 |.str i,.str j=>Q (.bl (decide (i=j))) H
 |x,y=>Iu x y H Q
noncomputable def BM:R2:=fun x y H Q=>match x,y with
 |.int i,.int j=>Q (.bl (!decide (i=j))) H
 |.str i,.str j=>Q (.bl (!decide (i=j))) H
 |x,y=>Ir x y H Q
theorem d4:ki X (compareOp .Eq) D1:=by
 intro pins s σ H x y v u Q I rx ry h;refine HM pins s σ H x y v u Q I rx ry ?_;unfold D1 at h;split at h
 .rw[Ga];exact h
 .rw[F9];exact h
 .exact h
theorem gM:ki X (compareOp .NotEq) BM:=by
 intro pins s σ H x y v u Q I rx ry h;refine HI pins s σ H x y v u Q I rx ry ?_;unfold BM at h;split at h
 .rw[F8];exact h
 .rw[F7];exact h
 .exact h
theorem dF:D1 (.int i) (.int j) H Q=Q (.bl (decide (i=j))) H:=rfl
theorem dD:BM (.int i) (.int j) H Q=Q (.bl (!decide (i=j))) H:=rfl
theorem dE{i j:Str}:D1 (.str i) (.str j) H Q=Q (.bl (decide (i=j))) H:=rfl
theorem dA{i j:Str}:BM (.str i) (.str j) H Q=Q (.bl (!decide (i=j))) H:=rfl
section
variable{y:Str}{a b:Expr}{tb:TE}{pos' p:Pos}
theorem sS(i:Nat)(hN:X.N.Nodup)(he:PE X e te)(hi:X.N[i]?=some x:=by rfl)(hx:Loc X.env.scope x:=by first|exact Or.inl rfl|exact Or.inr rfl)(hs:swapsWith e (some (.Name x pos')) pos.line X.env=pure false:=by rfl)(hf:X.fn x=true\/X.env.scope.names.lookup x=some .local:=by first|exact .inl rfl|exact .inr rfl|assumption):
  PS X (.Assign [.Name x pos'] e pos) (Bg te (mh i)):=Ge hN hi hx he hs hf
theorem gN(i:Nat)(hN:X.N.Nodup)(hi:X.N[i]?=some x:=by rfl)(hx:Loc X.env.scope x:=by first|exact Or.inl rfl|exact Or.inr rfl)(hf:X.fn x=true\/X.env.scope.names.lookup x=some .local:=by first|exact .inl rfl|exact .inr rfl|assumption):PG X (.Name x pos) (mh i):=D6 hN hi hx hf
theorem sA{op:Operator}{ti:Hd}(i:Nat)(hN:X.N.Nodup)(he:PE X e te)(ho:Iz X op ti)(hi:X.N[i]?=some x:=by rfl)(hx:Loc X.env.scope x:=by first|exact Or.inl rfl|exact Or.inr rfl)(hf:X.fn x=true\/X.env.scope.names.lookup x=some .local:=by first|exact .inl rfl|exact .inr rfl|assumption):
  PS X (.AugAssign (.Name x pos') op e pos) (FS i te ti):=Gf hN hi hx he ho hf
theorem pF{j:Nat}{es:List Expr}{t:TA}(c:gz X.prog X.w X.K X.mg X.base x k ps sp)(hr:fj j X.A)(hA:Acc X E)(ha:PA X (e::es) t)(hj:k<=j:=by decide)(hg:Gl X x:=by rfl)(hdb:(x==("__debug__":Str))=false:=by decide)(he:starEach (e::es) X.env=(false,eval e X.env)::starEach es X.env:=by rfl)(hpl:(backTo pos (starEach es X.env)).any (·.1)=false:=by rfl):
  PE X (.Call (.Name x p) (e::es) [] pos) (yY sp [] E t):=HH c (hr.mono hj) hA ha hg hdb he hpl
theorem gL(T:Top K mg base c)(ha:PE X e te)(h:X.K=K:=by rfl)(hm:X.mg=mg:=by rfl)(hg:Gl X "len":=by rfl)(he:starEach [e] X.env=(false,eval e X.env)::starEach [] X.env:=by rfl)(hpl:(backTo pos (starEach [] X.env)).any (·.1)=false:=by rfl):PE X (.Call (.Name "len" p) [e] [] pos) (Iq (vY K) (vM te vJ)) :=
 jw (GT h) hg (hm▸T.g.len) GV (aa ha ag (hs:=he)) (by decide) (by decide) he hpl
theorem pD{f:Str}(T:Top K mg base c)(he:PE X e te)(h:X.K=K:=by rfl)(hb:attributeBase e f X.env (eval e X.env)=eval e X.env:=by rfl):PE X (.Attribute e f pos) (DB K te f):=Eb h he hb
theorem tR{op:CmpOp}{r:R2}(ho:ki X (compareOp op) r)(ha:PE X a ta)(hb:PE X b tb)(h1:op ≠ .In:=by decide)(h2:op ≠ .NotIn:=by decide):PT X (.Compare a [op] [b] pos) (yV (FP r ta tb)):=mV ho ha hb (oy b h1 h2)
theorem xL{r:R2}(hr:ID X r)(ha:PE X a ta)(hb:PE X b tb)(hs:zY b:=by exact fun _ _=>rfl):PE X (.Subscript a b pos) (FP r ta tb):=HG hr ha hb hs
end
local macro_rules | `(tactic| walk_at "s")=> `(tactic| exact⟨rfl,rfl,rfl,by decide +kernel,rfl,by decide +kernel,by decide +kernel⟩)
local macro_rules | `(tactic| walk_at "l")=> `(tactic| (rintro _ _ _ _ ⟨⟩;subst_vars;rfl))
local macro_rules | `(tactic| walk_at "de")=> `(tactic| try simp only[eD,cU,cA])
local macro_rules | `(tactic| walk_at "rd")=> `(tactic| try simp only[dj,bj,bh,bx,cj,aV,bP,bO,bZ,g7,eJ,ia,e9,eU,cY,eT,hG,eK,bQ,hJ,bz,dz,eS,c9,cy,c8,bU,di,df,bV,bW,c5,dv,ck,c6,bS,dh,dy,bw,dw,da,cw,cZ,de,cx,eW,eM,aW,bT,br,b7,bq,bp,bo,b8,cb,cf,cg,cX,bY,bX,dk,bR,cu,dq,cq,cp,bu,dn,dm,du,cv,ib,fe,eV,eQ,c7,dg,eO,dF,dD,dE,dA,dI,h9,dH,cz,bc,bf,dJ,fc,aK,aG,e7,e8,eX,eY,eZ,L2.start,L2.wipe,true_and,aX,aL,not_true_eq_false,not_false_eq_true,J5,Lh,JS,J7,Lf,Lg,Kw,Nat.reduceAdd,Nat.reduceSub,Nat.zero_add,Nat.sub_self,Le,List.replicate_zero,Ld,List.getElem?_cons_succ,List.set_cons_zero,List.set_cons_succ])
section
inductive Bo (vs:List V) (H:Hp) (Q:VK) (E:XK):Prop
 |mk (n:Nat) (_:vs=[iv n]) (_:Q (iv (Sn12.lower n)) H)
theorem j7(T:Top K mg base c):gz P w K mg base "small_letter" 1 ["octet"] (Bo):=by
 refine T.rE.cl ["octet"] ?_;rintro nd _ _ _ _ _ H _ Q E hr ⟨n,rfl,q⟩;refine⟨_,(ah (ay (iO (iN fX fX ak (pv 0) ak) (aP dX (pv 0) ak) (pv 0)))),?_⟩;walk_at "rd";refine aS (fun h1=>aS (fun h2=>?_) fun h2=>?_) fun h1=>?_
 .have e:Sn12.lower n=n+32:=by unfold Sn12.lower;rw[JX];lia
  rw[e]at q;exact q
 .have e:Sn12.lower n=n:=by unfold Sn12.lower;rw[JU];lia
  rw[e]at q;exact q
 .have e:Sn12.lower n=n:=by unfold Sn12.lower;rw[JU];lia
  rw[e]at q;exact q
inductive BA (K:Lq) (vs:List V) (H:Hp) (Q:VK) (E:XK):Prop
 |mk (a:Addr) (bs:List Nat) (_:vs=[.ref a]) (_:Sq K H a (nz bs)) (_:bs.length<=65536) (_:∀v H',ar H H'->Bt H' v (bs.map Sn12.lower)->Q v H')
theorem kG(T:Top K mg base c):gz P w K mg base "small_label" 2 ["octets"] (BA K):=by
 have g:=T.g;refine T.so.cl ["octets","octet"] ?_;rintro nd _ _ _ _ _ H _ Q E hr ⟨a,bs,rfl,hS,hl,q⟩;refine⟨_,(ah (ay (dS (fu (K:=K) rfl) (by rfl) g.tuple fw (aa (gh (own:=[("octet",1)]) aq rfl rfl rfl nd (Gh (pv 0)) (cP (by kernel_rfl)) (fun _ _ _ _ _ _ hA=>(gN 1 nd)) (fun _ _ _ _ _ _ hA=>fE) (fun _ _ _ _ _ _ hA=>(pF (j7 T) hr hA (aa (pv 1) ag)))) ag)))),?_⟩;walk_at "rd";refine F5 hS fun J W=>?_;intro D hD;refine ja W (R:=In) (S:=In) zr (fun _ _ _ _ _ h=>h) (fun _ _ _ _ _ h=>h) Sn12.lower (by lia) hD (fun i d x H' k h1 h2 h3 h4=>?_) fun acc H' ha hp s=>?_
 .subst h2;walk_at "rd";refine⟨d,rfl,h4 _ _ (ar.refl _) rfl⟩
 .rw[wA hp]at ha;exact kY (aY.of ha) fun v H4 s4 b=>q _ _ (s.trans s4) b
noncomputable def i6{α:Type}(H:Hp)(Q:VK)(R:Hp->V->α->Prop)(a:α):Prop:=∀v H',ar H H'->R H' v a->Q v H'
noncomputable def Res{α:Type}(c:As)(H:Hp)(Q:VK)(E:XK)(R:Hp->V->α->Prop)(o:Option α):Prop:=(∀a v H',o=some a->ar H H'->R H' v a->Q v H')/\(o=none->∀H',ar H H'->E (.ref c.CN) none H')
theorem Res.from{α:Type}{E:XK}{R:Hp->V->α->Prop}{o:Option α}(r:Res c H Q E R o)(s:ar H H1):Res c H1 Q E R o:=⟨fun a v H' e s'=>r.1 a v H' e (s.trans s'),fun e H' s'=>r.2 e H' (s.trans s')⟩
inductive DJ (vs:List V) (H:Hp) (Q:VK) (E:XK):Prop
 |mk (n:Nat) (_:vs=[iv n]) (_:∀H',ar H H'->Q (.bl (Sn12.labelChar n)) H')
theorem ow(T:Top K mg base c):gz P w K mg base "is_label_sign" 1 ["octet"] (DJ):=by
 have g:=T.g;refine T.pO.cl ["octet"] ?_;rintro nd _ _ _ _ _ H _ Q E hr ⟨n,rfl,q⟩;refine⟨_,(ah (ay (Fw (qC fX fX ak (pv 0) ak) (Fw (qC fX fX ak (pv 0) ak) (yf (lH (yh (K:=K) rfl) (pv 0) (bM (aa (aQ g.G4) (aa (aQ g.yJ) ag))) (by with_unfolding_all rfl))))))),?_⟩;walk_at "rd";have t1:(97<=n/\n<=122)\/(48<=n/\n<=57)->Q (V.bl true) H:=fun h=>by
  have e:Sn12.labelChar n=true:=by
   unfold Sn12.labelChar Sn12.digit;rcases h with h|h<;>simp[h]
  have:=q H (ar.refl _);rw[e]at this;exact this
 have t2:¬(97<=n/\n<=122)->¬(48<=n/\n<=57)->2<=sizeLine/\∀p:Addr,H p=none->G8 K false (iv n) (V.ref p) (upd H p (HO.tup [V.int 45,V.int 95])) Q:=fun h1 h2=>by
  refine⟨az (by decide),fun p hp=>vW (gG.of af) rfl rfl ?_⟩;have e:Sn12.labelChar n=zA (iv n) [V.int 45,V.int 95]:=by
   have d1:decide (97<=n/\n<=122)=false:=by simp only[decide_eq_false_iff_not];exact h1
   have d2:Sn12.digit n=false:=by unfold Sn12.digit;rw[<-Bool.decide_and,decide_eq_false_iff_not];exact h2
   unfold Sn12.labelChar;rw[d1,d2,Bool.false_or,Bool.false_or,Bool.eq_iff_iff];simp only[zA,K0,List.any_nil,CO,Lm,beq_iff_eq,Bool.or_false];lia
  have:=q _ (aj (o:=.tup [V.int 45,V.int 95]) hp);rw[e]at this;exact this
 refine aS (fun h1=>aS (fun h2=>t1 (by lia)) fun h2=>aS (fun h3=>aS (fun h4=>t1 (by lia)) fun h4=>t2 (by lia) (by lia)) fun h3=>t2 (by lia) (by lia)) fun h1=>aS (fun h3=>aS (fun h4=>t1 (by lia)) fun h4=>t2 (by lia) (by lia)) fun h3=>t2 (by lia) (by lia)
inductive FT (vs:List V) (H:Hp) (Q:VK) (E:XK):Prop
 |mk (n:Nat) (_:vs=[iv n]) (_:i6 H Q Bt (dW n))
theorem FN(n:Nat):[V.int (n/256),V.int (n%256)]=nz (dW n):=by
 simp only[dW,nz,J5,Lh,iv,Int.natCast_ediv,Int.natCast_emod];rfl
theorem cV(T:Top K mg base c):gz P w K mg base "two_octets" 1 ["number"] (FT):=by
 refine T.uU.cl ["number"] ?_;rintro nd _ _ _ _ _ H _ Q E hr ⟨n,rfl,q⟩;refine⟨_,(ah (ay (bM (aa (aP zq (pv 0) ak) (aa (aP B5 (pv 0) ak) ag))))),?_⟩;walk_at "rd";refine⟨⟨by decide,by decide⟩,by decide,az (by decide),fun p hp=>?_⟩;rw[FN];exact q _ _ (aj hp) Bt.new
inductive DS (vs:List V) (H:Hp) (Q:VK) (E:XK):Prop
 |mk (n:Nat) (_:vs=[iv n]) (_:i6 H Q Bt (gF n))
theorem kK(T:Top K mg base c):gz P w K mg base "four_octets" 2 ["number"] (DS):=by
 refine T.sD.cl ["number"] ?_;rintro nd _ _ _ _ _ H _ Q E hr ⟨n,rfl,q⟩;refine⟨_,(ah (ay (aP lI (pF (cV T) hr aq (aa (aP zq (pv 0) ak) ag)) (pF (cV T) hr aq (aa (aP B5 (pv 0) ak) ag))))),?_⟩;walk_at "rd";refine⟨⟨by decide,by decide⟩,n/65536,by simp,fun v H1 s1 b1=>⟨by decide,n%65536,by simp,fun v2 H2 s2 b2=>?_⟩⟩;obtain⟨a1,rfl,r1⟩:=Bt.same b1 s2;obtain⟨a2,rfl,r2⟩:=b2;refine⟨a1,a2,_,_,rfl,rfl,.inl r1,.inl r2,by simp[dW],az (by simp[dW]),fun z=>by simp[dW]at z,fun _ p hp=>?_⟩;have e:nz (dW (n/65536))++nz (dW (n%65536))=nz (gF n):=by rw[gF,nz,nz,nz,List.map_append]
 rw[e];exact q _ _ (a8 (s1.trans s2) ((s1.trans s2).free hp)) Bt.new
inductive FV (K:Lq) (vs:List V) (H:Hp) (Q:VK) (E:XK):Prop
 |mk (a:Addr) (bs:List Nat) (p:Nat) (_:vs=[.ref a,iv p]) (_:aY K H a (nz bs)) (_:p+1<bs.length) (_:Q (iv (bs.getD p 0*256+bs.getD (p+1) 0)) H)
theorem at_getD{bs:List Nat}{i:Nat}(h:i<bs.length){z:Int}(hz:z=(i:Int)):xn (nz bs) z=some (iv (bs.getD i 0)):=by
 subst hz;refine pj ?_;rw[Ks h,List.getD_eq_getElem?_getD,Ks h];rfl
theorem iE(T:Top K mg base c):gz P w K mg base "number_at" 1 ["octets","place"] (FV K):=by
 refine T.w9.cl ["octets","place"] ?_;rintro nd _ _ _ _ _ H _ Q E hr ⟨a,bs,p,rfl,hS,hp,q⟩;refine⟨_,(ah (ay (aP dX (aP yg (xL cH (pv 0) (pv 1)) ak) (xL cH (pv 0) (aP dX (pv 1) ak))))),?_⟩;walk_at "rd";refine dP hS (at_getD (i:=p) (by lia) rfl) ?_;walk_at "rd";refine⟨.inr ⟨by decide,by decide⟩,dP hS (at_getD (i:=p+1) (by lia) (by lia)) ?_⟩;walk_at "rd";exact q
inductive y4 (vs:List V) (H:Hp) (Q:VK) (E:XK):Prop
 |mk (v:V) (n:List (List Nat)) (_:vs=[v]) (_:Nm H v n) (_:n.length<=65536) (_:∀H',ar H H'->Q (iv (Sn12.size n)) H')
theorem ng(T:Top K mg base c):gz P w K mg base "name_size" 1 ["name"] (y4):=by
 have g:=T.g;refine T.xc.cl ["name","label"] ?_;rintro nd _ _ _ _ _ H _ Q E hr ⟨v,n,rfl,hN,hl,q⟩;refine⟨_,(ah (ay (aP dX (jw (GR (K:=K) rfl rfl) (by rfl) g.sum C9 (aa (gh (own:=[("label",1)]) aq rfl rfl rfl nd (oq (pv 0)) (cP (by kernel_rfl)) (fun _ _ _ _ _ _ hA=>(gN 1 nd)) (fun _ _ _ _ _ _ hA=>fE) (fun _ _ _ _ _ _ hA=>(aP dX (gL T (pv 1)) ak))) ag)) ak))),?_⟩;obtain⟨vs,⟨a,rfl,r⟩,hp⟩:=hN;walk_at "rd";refine⟨⟨_,.inl r⟩,fun D hD=>?_⟩;refine ja (Walk.t (.inl r)) (R:=Bt) (S:=In) hp (fun _ _ _ _ s h=>Bt.same h s) (fun _ _ _ _ _ h=>h) (fun l=>l.length+1) (by lia) hD (fun i d x H' k h1 h2 h3 h4=>?_) fun acc H' ha hp s=>?_
 .obtain⟨b,rfl,rb⟩:=h2;walk_at "rd";refine fi (.inl rb) ?_;walk_at "rd";refine h4 _ _ (ar.refl _) ?_;show V.int _=V.int _;rw[aD];rfl
 .rw[wA hp]at ha;have e:nz (n.map fun l=>l.length+1)=(n.map fun l=>((l.length+1:Nat):Int)).map V.int:=by rw[nz,KY,KY];rfl
  rw[e]at ha;refine HU (aY.of ha) ?_;walk_at "rd";have e2:((n.map fun l=>((l.length+1:Nat):Int)).sum+1:Int)=(Sn12.size n:Nat):=by
   unfold Sn12.size;have:∀m:List (List Nat),((m.map fun l=>((l.length+1:Nat):Int)).sum:Int)=((m.map fun l=>l.length+1).sum:Nat):=fun m=>by
    induction m with
    |nil=>rfl
    |cons x m ih=>rw[J5,J5,List.sum_cons,List.sum_cons,ih];lia
   rw[this];rfl
  rw[e2];exact q _ s
inductive Aa (vs:List V) (H:Hp) (Q:VK) (E:XK):Prop
 |mk (v u:V) (n o:List (List Nat)) (_:vs=[v,u]) (_:Nm H v n) (_:Nm H u o) (_:∀H',ar H H'->Q (.bl (Sn12.under n o)) H')
theorem nh(T:Top K mg base c):gz P w K mg base "is_within" 1 ["name","origin"] (Aa):=by
 refine T.xf.cl ["name","origin"] ?_;rintro nd _ _ _ _ _ H _ Q E hr ⟨v,u,n,o,rfl,hN,hO,q⟩;refine⟨_,(ah (ay (B1 (lH HJ (gL T (pv 0)) (gL T (pv 1)) (oy _)) (yf (lH (mr (dZ hr)) (bF fO (pv 0) (bD (aP gj (gL T (pv 0)) (gL T (pv 1)))) dO) (pv 1) (oy _)))))),?_⟩;have hO':=hO;obtain⟨vs,⟨a,rfl,r⟩,hp⟩:=hN;obtain⟨us,⟨b,rfl,r2⟩,hp2⟩:=hO;have l1:=Paired.length hp;have l2:=Paired.length hp2;walk_at "rd";refine fi (.inl r) (fi (.inl r2) ?_);walk_at "rd";refine aS (fun h1=>?_) fun h1=>?_
 .refine fi (.inl r) (fi (.inl r2) ?_);walk_at "rd";refine jE r fun v H1 s1 t1=>?_;have e:((vs.length:Int)-(us.length:Int))=((vs.length-us.length:Nat):Int):=by lia
  rw[e,fq]at t1;refine FH ⟨_,t1,Paired.imp (fun _ _ r=>Bt.same r s1) (Paired.dropP _ hp)⟩ (hO'.same s1) ?_;have:=q _ s1;have e2:Sn12.under n o=decide (n.drop (vs.length-us.length)=o):=by
   unfold Sn12.under;rw[KO (by lia:o.length<=n.length),Bool.true_and,l1,l2,Bool.eq_iff_iff];simp
  rw[e2]at this;exact this
 .have:=q _ (ar.refl _);have e2:Sn12.under n o=false:=by
   unfold Sn12.under;rw[Kl (by lia:¬o.length<=n.length),Bool.false_and]
  rw[e2]at this;exact this
inductive xS (vs:List V) (H:Hp) (Q:VK) (E:XK):Prop
 |mk (x:Str) (_:vs=[.str x]) (_:x.cps.size<=1000) (_:i6 H Q Bt x.cps.toList)
theorem qI(T:Top K mg base c):gz P w K mg base "spelled" 1 ["text"] (xS):=by
 have g:=T.g;refine T.AO.cl ["text","sign"] ?_;rintro nd _ _ _ _ _ H _ Q E hr ⟨x,rfl,hl,q⟩;refine⟨_,(ah (ay (dS (fu (K:=K) rfl) (by rfl) g.tuple fw (aa (gh (own:=[("sign",1)]) aq rfl rfl rfl nd (Gg (pv 0)) (cP (by kernel_rfl)) (fun _ _ _ _ _ _ hA=>(gN 1 nd)) (fun _ _ _ _ _ _ hA=>fE) (fun _ _ _ _ _ _ hA=>(jw GS (by rfl) g.ord GU (aa (pv 1) ag)))) ag)))),?_⟩;walk_at "rd";intro D hD;refine En (fun i H'=>H' D=some (.lst (nz (x.cps.toList.take i)))/\ar H H') ⟨af,aj hD⟩ ?_ ?_
 .rintro i n H' hc ⟨ha,s⟩;walk_at "rd";refine⟨_,rfl,rfl,?_⟩;have hc':x.cps.toList[i]?=some n:=by simpa using hc
  have e:x.cps.toList.take (i+1)=x.cps.toList.take i++[n]:=by rw[List.take_succ,hc'];rfl
  refine⟨_,ha,gZ (by rw[aD,Kf];simp;lia),?_,a8 s hD⟩;rw[af,e];unfold nz;rw[List.map_append];rfl
 .rintro H' ⟨ha,s⟩;have e:x.cps.toList.take x.cps.size=x.cps.toList:=List.take_of_length_le (by simp);rw[e]at ha;exact kY (aY.of ha) fun v H4 s4 b=>q _ _ (s.trans s4) b
inductive Bk (c:As) (vs:List V) (H:Hp) (Q:VK) (E:XK):Prop
 |mk (v:V) (bs:List Nat) (m:Nat) (_:vs=[v,iv m]) (_:Bt H v bs) (_:Res c H Q E In (NM.whole bs m))
theorem va(b:Nat)(r:List Nat):xn (nz (b::r)) 0=some (iv b):=pj (i:=0) rfl
theorem AN{bs:List Nat}{i n:Nat}(h:bs[i]?=some k):gv (bs.drop i) n=if 48<=k/\k<=57 then gv (bs.drop (i+1)) (n*10+(k-48)) else none:=by
 have hi:i<bs.length:=(JW.mp h).1;have e:bs[i]=k:=(JW.mp h).2;rw[K8 hi,e];rfl
inductive JL (H:Hp) (bs:List Nat) (m:Nat) (a:Addr) (i:Nat) (σ:St) (H':Hp):Prop
 |mk (n:Nat) (x y:Option V) (_:σ=[some (.ref a),some (iv m),some (iv n),x,y]) (_:H'=H) (_:gv (bs.drop i) n=gv bs 0)
theorem gY(T:Top K mg base c):gz P w K mg base "read_whole" 1 ["word","limit"] (Bk c):=by
 have g:=T.g;have hk:=T.hk;refine T.uY.cl ["word","limit","number","octet","digit"] ?_;rintro nd _ _ _ _ _ H _ Q E hr ⟨v,bs,m,rfl,hB,q⟩;refine⟨_,(ae (aR (PW.pt (o5 (jV (iN fX fX ak (gL T (pv 0)) (aQ g.xu))) (kx (PW.pt (jT (tR d4 (xL dG (pv 0) ak) (aQ g.rO)) (iC (tR iP (gL T (pv 0)) ak))))))) (ah (bA T.aT hk aq)) aB)
  (ae (sS 2 nd ak)
  (ae (d3 aA rfl (oq (pv 0)) (gN 3 nd) (ae (sS 4 nd (aP gj (pv 3) (aQ g.rO)))
  (ae (aR (jV (iN fX fX ak (pv 4) ak)) (ah (bA T.aT hk aq)) aB)
  (ah (sS 2 nd (aP dX (aP yg (pv 2) ak) (pv 4)))))))
  (ae (aR (tR iP (pv 2) (pv 1)) (ah (bA T.aT hk aq)) aB)
  (ah (ay (pv 2))))))),?_⟩
 obtain⟨a,rfl,r⟩:=hB;rw[NM.whole]at q;by_cases hc:¬(1<=bs.length/\bs.length<=10)\/(bs.head?=some 48/\1<bs.length)
 .rw[JX hc]at q;have bad:=q.2 rfl H (ar.refl _);refine qm False (fun z=>z.elim) fun N hN=>?_;walk_at "rd";refine fi (.inl r) ?_;walk_at "rd";rw[aD];refine aS (fun h1=>aS (fun _=>bad) fun h2=>?_) fun _=>bad;obtain⟨b,r',rfl⟩:∃b r',bs=b::r':=by
   cases bs with
   |nil=>simp at h1
   |cons b r'=>exact⟨b,r',rfl⟩
  refine cT (.inl r) (va b r') ?_;walk_at "rd";rcases hc with hc|hc
  .exact absurd ⟨by lia,by lia⟩ hc
  refine aS (fun h3=>fi (.inl r) ?_) fun h3=>?_
  .walk_at "rd";refine aS (fun _=>bad) fun h4=>?_;have:=hc.2;rw[aD]at h4;rw[JS]at this;lia
  .have:=hc.1;rw[K6,Option.some.injEq]at this;subst this;exact absurd rfl h3
 .rw[JU hc]at q;refine qm True (fun _=>?_) fun N hN=>?_
  .walk_at "rd";refine⟨⟨_,.inl r⟩,xP (xs:=nz bs) (JL H bs m a) ⟨0,_,_,rfl,rfl,rfl⟩ (fun i σ H' _ ⟨_,_,_,_,e,_⟩=>e ▸ .inl r) ?_ ?_⟩
   .rintro i x σ H' hx ⟨n,x1,y1,rfl,rfl,hn⟩;obtain⟨k,hk1,rfl⟩:=qO hx;have hd:=AN (n:=n) hk1;walk_at "rd";walk_at "de";by_cases hk2:48<=k/\k<=57
    .rw[JX (by lia:(0:Int)<=(k:Int)-48),JU (by lia)];have e:((n:Int)*10+((k:Int)-48))=((n*10+(k-48):Nat):Int):=by lia
     rw[e];exact⟨.inr ⟨by decide,by decide⟩,_,_,_,rfl,rfl,by rw[<-hn,hd,JX hk2]⟩
    .have bad:E (.ref c.CN) none H':=by
      rw[<-hn,hd,JU hk2]at q;exact q.2 rfl _ (ar.refl _)
     refine aS (fun _=>aS (fun _=>bad) fun _=>?_) fun _=>bad;lia
   .rintro σ H' ⟨n,x1,y1,rfl,rfl,hn⟩;rw[aD,List.drop_length]at hn;rw[<-hn]at q;simp only[gv]at q;walk_at "rd";refine aS (fun h1=>?_) fun h1=>?_
    .exact q.2 (by rw[JX (by lia)]) _ (ar.refl _)
    .exact q.1 n _ _ (by rw[JU (by lia)]) (ar.refl _) rfl
  .walk_at "rd";refine fi (.inl r) ?_;walk_at "rd";rw[aD];simp only[not_or,Decidable.not_not]at hc;walk_at "de";rw[JX (by lia),JU (by lia)];obtain⟨b,r',rfl⟩:∃b r',bs=b::r':=by
    cases bs with
    |nil=>simp at hc
    |cons b r'=>exact⟨b,r',rfl⟩
   refine cT (.inl r) (va b r') ?_;walk_at "rd";refine aS (fun h3=>fi (.inl r) ?_) fun h3=>hN trivial;walk_at "rd";walk_at "de";rw[JU]
   .exact hN trivial
   .rw[aD];intro z;exact hc.2 ⟨by rw[K6];congr 1;exact Int.ofNat.inj h3,by rw[JS];lia⟩
end
section
noncomputable def Fl(H:Hp)(v:V)(bs:List Nat):Prop:=∃b,v = .ref b/\H b=some (.lst (nz bs))
noncomputable def Ls{δ:Type}(R:Hp->V->δ->Prop)(H:Hp)(v:V)(ds:List δ):Prop:=∃l vs,v = .ref l/\H l=some (.lst vs)/\Paired (R H) vs ds
inductive Bm (K:Lq) (vs:List V) (H:Hp) (Q:VK) (E:XK):Prop
 |mk (a:Addr) (bs:List Nat) (m:Nat) (_:vs=[.ref a,iv m]) (_:bs.length<=65536) (_:((aY K H a (nz bs)/\i6 H Q (Ls Fl) (NM.cutAt m bs []))\/(Rd H a (.tup (nz bs))/\i6 H Q (Ls Bt) (NM.cutAt m bs []))))
theorem C6{m i st:Nat}{bs:List Nat}(h:bs[i]?=some k)(hs:st<=i):NM.cutAt m (bs.drop i) ((bs.take i).drop st)=if k=m then(bs.take i).drop st::NM.cutAt m (bs.drop (i+1)) ((bs.take (i+1)).drop (i+1)) else NM.cutAt m (bs.drop (i+1)) ((bs.take (i+1)).drop st):=by
 have hi:i<bs.length:=(JW.mp h).1;have e:bs[i]=k:=(JW.mp h).2;have e2:bs.take (i+1)=bs.take i++[k]:=by rw[List.take_succ,h];rfl
 have e3:(bs.take (i+1)).drop (i+1)=[]:=List.drop_of_length_le (by rw[Kf];lia);have e4:(bs.take (i+1)).drop st=(bs.take i).drop st++[k]:=by rw[e2,List.drop_append_of_le_length (by rw[Kf];lia)]
 rw[K8 hi,e,e3,e4];rfl
inductive Jk (H:Hp) (a:Addr) (bs:List Nat) (m:Nat) (R:Hp->V->List Nat->Prop) (l:Addr) (i:Nat) (σ:St) (H':Hp):Prop
 |mk (st:Nat) (x y:Option V) (vs:List V) (done:List (List Nat)) (_:σ=[some (.ref a),some (iv m),some (.ref l),some (iv st),x,y]) (_:st<=i) (_:i<=bs.length) (_:H' l=some (.lst vs)) (_:ar H H') (_:vs.length<=i) (_:Paired (fun v p=>v ≠ .ref l/\R H' v p) vs done) (_:done++NM.cutAt m (bs.drop i) ((bs.take i).drop st)=NM.cutAt m bs [])
theorem i9(T:Top K mg base c):gz P w K mg base "split_at" 1 ["octets","mark"] (Bm K):=by
 have g:=T.g;have hk:=T.hk;refine T.yF.cl ["octets","mark","parts","start","place","octet"] ?_;rintro nd _ _ _ _ _ H _ Q E hr ⟨a,bs,m,rfl,hl,q⟩;refine⟨_,(ae (sS 2 nd (bN ag))
  (ae (sS 3 nd ak)
  (ae (d3 aA rfl (BP rfl g.enumerate (aa (pv 0) ag)) (BR rfl (mW (gN 4 nd) (mW (gN 5 nd) zo))) (ah (aR (tR d4 (pv 5) (pv 1)) (ae (aM (fo Ka KJ KI fz (pv 2) (aa (bF BE (pv 0) (bD (pv 3)) (bD (pv 4))) ag)))
  (ah (sS 3 nd (aP dX (pv 4) ak)))) aB)))
  (ae (aM (fo Ka KJ KI fz (pv 2) (aa (bF BE (pv 0) (bD (pv 3)) dO) ag)))
  (ah (ay (pv 2))))))),?_⟩
 obtain⟨R,hSq,hst,hsl,q⟩:∃R:Hp->V->List Nat->Prop,Sq K H a (nz bs)/\(∀H1 H2 v p,R H1 v p->(∀b o,v = .ref b->H1 b=some o->H2 b=some o)->R H2 v p) /\
   (∀H1 l xs lo hi (k:VK),ar H H1->H1 l=some (.lst xs)->H l=none->(∀v H2 p,ar H1 H2->v ≠ .ref l->fK (nz bs) lo hi=nz p->R H2 v p->k v H2)->(∃p,fK (nz bs) lo hi=nz p)->HD K (.ref a) lo hi H1 k)/\i6 H Q (Ls R) (NM.cutAt m bs []):=by
  rcases q with⟨hS,q⟩|⟨hS,q⟩
  .refine⟨Fl,.inl hS,fun H1 H2 v p h k=>?_,fun H1 l xs lo hi k s hl hn hk ⟨p,hp⟩=>?_,q⟩
   .obtain⟨b,rfl,h⟩:=h;exact⟨b,rfl,k _ _ rfl h⟩
   .refine .inl ⟨a,_,rfl,s.seq hS,fun b hb=>hk _ _ p (aj hb) (fun z=>?_) hp ⟨b,rfl,by rw[af,hp]⟩⟩;cases z;rw[hl]at hb;cases hb
  .refine⟨Bt,.inr (.inl hS),fun H1 H2 v p h k=>?_,fun H1 l xs lo hi k s hl hn hk ⟨p,hp⟩=>?_,q⟩
   .obtain⟨b,rfl,h⟩:=h;refine⟨b,rfl,?_⟩;rcases h with h|⟨o,h⟩
    .exact .inl (k _ _ rfl h)
    .exact .inr ⟨o,k _ _ rfl h⟩
   .refine .inr (jE (ar.rd s hS) fun v H2 s2 t=>hk v H2 p s2 (fun z=>?_) hp (by rw[hp]at t;exact t));obtain⟨b,e,r⟩:=t;subst z;cases e;have:=s2 _ _ hl;rcases r with r|⟨o,r⟩<;>(rw[this]at r;cases r)
 walk_at "rd";refine⟨az (by decide),fun l hl0=>?_⟩;refine Ib (xs:=nz bs) hSq (aj hl0) fun J W=>?_;refine E6 W (Jk H a bs m R l)
  ⟨0,none,none,[],[],rfl,JY _,Kq _,af,aj hl0,JY _,.nil,by simp⟩ (fun i σ H' ⟨_,_,_,_,_,_,_,_,_,s,_,_,_⟩=>s) ?_ ?_
 .rintro i x σ H' T hx ⟨st,x1,y1,vs,done,rfl,h1,h2,h3,s1,h4,h5,h6⟩ hT;obtain⟨k,hk,rfl⟩:=qO hx;have hi:i<bs.length:=(JW.mp hk).1;rw[C6 hk h1]at h6;refine zB af ?_;have sT:ar H' (upd H' T (HO.tup [V.int ↑(i+0),iv k])):=aj hT;generalize upd H' T (HO.tup [V.int ↑(i+0),iv k])=H2 at sT;have h3':=sT _ _ h3;have h5':Paired (fun v p=>v≠V.ref l/\R H2 v p) vs done:=Paired.imp (fun v p r=>⟨r.1,hst _ _ _ _ r.2 fun b o _ e=>sT b o e⟩) h5;walk_at "rd";refine aS (fun hkm=>⟨oX h3',hsl H2 l vs _ _ _ (s1.trans sT) h3' hl0 (fun v H3 p s3 hv hp hr=>?_) ⟨_,rJ _ _ _⟩⟩) fun hkm=>?_
  .have hp':p=(bs.take i).drop st:=Ca (hp.symm.trans (rJ bs st i));subst hp';have h3'':=s3 _ _ h3';refine goApp h3'' (by lia) ?_;rw[JX (by lia)]at h6;refine⟨i+1,_,_,vs++[v],done++[(bs.take i).drop st],rfl,JY _,hi,af,a8 ((s1.trans sT).trans s3) hl0,by simp;exact h4,?_,by rw[<-h6];simp⟩;have up:∀v' p',(v'≠V.ref l/\R H3 v' p')->(v'≠V.ref l/\R (upd H3 l (.lst (vs++[v]))) v' p'):=fun v' p' r=>⟨r.1,hst _ _ _ _ r.2 fun b o e h=>by
    rw[ai (fun z=>r.1 (by rw[e,z]))];exact h⟩
   exact Paired.snoc (Paired.imp (fun v p r=>up _ _ ⟨r.1,hst _ _ _ _ r.2 fun b o _ e=>s3 b o e⟩) h5') (up _ _ ⟨hv,hr⟩)
  .rw[JU (by lia)]at h6;exact⟨st,_,_,vs,done,rfl,by lia,hi,h3',s1.trans sT,by lia,h5',h6⟩
 .rintro σ H' ⟨st,x1,y1,vs,done,rfl,h1,h2,h3,s1,h4,h5,h6⟩;rw[aD,List.drop_length,List.take_length]at h6;rw[aD]at h1 h4;walk_at "rd";refine⟨oX h3,hsl H' l vs _ _ _ s1 h3 hl0 (fun v H3 p s3 hv hp hr=>?_) ⟨_,p6 _ _⟩⟩;have hp':p=bs.drop st:=Ca (hp.symm.trans (p6 bs st));subst hp';have h3'':=s3 _ _ h3;refine goApp h3'' (by lia) ?_;refine q _ _ (a8 (s1.trans s3) hl0) ⟨l,_,rfl,af,?_⟩;rw[<-h6];have up:∀v' p',(v'≠V.ref l/\R H3 v' p')->R (upd H3 l (.lst (vs++[v]))) v' p':=fun v' p' r=>hst _ _ _ _ r.2 fun b o e h=>by
   rw[ai (fun z=>r.1 (by rw[e,z]))];exact h
  exact Paired.snoc (Paired.imp (fun v p r=>up _ _ ⟨r.1,hst _ _ _ _ r.2 fun b o _ e=>s3 b o e⟩) h5) (up _ _ ⟨hv,hr⟩)
end
section
inductive DH (K:Lq) (c:As) (vs:List V) (H:Hp) (Q:VK) (E:XK):Prop
 |mk (a:Addr) (bs:List Nat) (st:Nat) (_:vs=[.ref a,iv st]) (_:aY K H a (nz bs)) (_:bs.length<=65536) (_:st<bs.length) (_:Res c H Q E (fun _ v k=>v=iv (st+k)) (tO (bs.drop st)))
inductive DN (K:Lq) (c:As) (vs:List V) (H:Hp) (Q:VK) (E:XK):Prop
 |mk (a:Addr) (bs:List Nat) (st:Nat) (_:vs=[.ref a,iv st]) (_:aY K H a (nz bs)) (_:bs.length<=65536) (_:st<bs.length) (_:Res c H Q E (fun _ v k=>v=iv (st+k)) (tO (34::bs.drop (st+1))))
theorem tU{α:Type}{f:α->Bool}:∀{l:List α} {i:Nat},(∀j,j<i->∃x,l[j]?=some x/\f x=true)->(∀x,l[i]?=some x->f x=false)->(l.takeWhile f).length=i
 |[],i,h1,_=>by
  cases i with
  |zero=>rfl
  |succ i=>obtain⟨x,h,_⟩:=h1 0 (by lia);cases h
 |a::l,0,_,h2=>by rw[List.takeWhile_cons,h2 a rfl];rfl
 |a::l,i+1,h1,h2=>by
  obtain⟨x,h,hf⟩:=h1 0 (by lia);cases h;rw[List.takeWhile_cons,hf,JX rfl,JS,tU (i:=i) (fun j hj=>by simpa using h1 (j+1) (by lia)) (fun x hx=>h2 x (by simpa using hx))]
inductive Jb (H:Hp) (a:Addr) (bs:List Nat) (st:Nat) (i:Nat) (σ:St) (H':Hp):Prop
 |mk (x:_) (_:σ=[some (.ref a),some (iv st),x]) (_:H'=H) (_:∀j,j<i->∃y,(bs.drop (st+1))[j]?=some y/\(y != 34)=true)
theorem r9(T:Top K mg base c):gz P w K mg base "quoted_end" 1 ["line","start"] (DN K c):=by
 have g:=T.g;have hk:=T.hk;refine T.u5.cl ["line","start","place"] ?_;rintro nd _ _ _ _ _ H _ Q E hr ⟨a,bs,st,rfl,hS,hl,hst,q⟩;refine⟨_,(ae (d3 aA rfl (Aj rfl g.range (aa (aP dX (pv 1) ak) (aa (gL T (pv 0)) ag))) (gN 2 nd) (ah (aR (tR d4 (xL cH (pv 0) (pv 2)) (aQ g.zX)) (ah (ay (aP dX (pv 2) ak))) aB)))
  (ah (bA T.aT hk aq))),?_⟩
 rw[tN]at q;walk_at "rd";refine cD hS ?_;walk_at "rd";rw[aD];refine⟨(st:Int)+1,bs.length,rfl,⟨by lia,by lia,by lia,by lia⟩,?_⟩;have hn:((bs.length:Int)-((st:Int)+1)).toNat=bs.length-(st+1):=by lia
 rw[hn];refine vI (Jb H a bs st) ⟨none,rfl,rfl,fun j hj=>by lia⟩ ?_ ?_
 .rintro i σ H' hi ⟨x,rfl,rfl,hq⟩;walk_at "rd";have hlt:st+1+i<bs.length:=by lia
  have hg:bs[st+1+i]?=some bs[st+1+i]:=Ks hlt;refine dP hS (at_of (j:=st+1+i) (v:=iv bs[st+1+i]) (by lia) (by rw[KW,hg];rfl)) ?_;walk_at "rd";have hd:(bs.drop (st+1))[i]?=some bs[st+1+i]:=by rw[List.getElem?_drop];exact hg
  refine aS (fun h1=>?_) fun h1=>?_
  .have e:((bs.drop (st+1)).takeWhile fun c=>c != 34).length=i:=tU hq (fun x hx=>by rw[hd]at hx;cases hx;simp;lia);refine q.1 (i+2) _ _ ?_ (ar.refl _) ?_
   .rw[e,JU (by rw[J4];lia)]
   .show V.int _=V.int _;congr 1;lia
  .refine⟨_,rfl,rfl,fun j hj=>?_⟩;by_cases hji:j=i
   .subst hji;exact⟨_,hd,by simp;lia⟩
   .exact hq j (by lia)
 .rintro σ H' ⟨x,rfl,rfl,hq⟩;walk_at "rd";refine q.2 ?_ _ (ar.refl _);have e:((bs.drop (st+1)).takeWhile fun c=>c != 34).length=bs.length-(st+1):=tU hq (fun x hx=>by rw[List.getElem?_eq_none (by rw[J4];lia)]at hx;cases hx);rw[e,JX (by rw[J4])]
theorem JE(n:Nat):zA (iv n) [V.int 32,V.int 34,V.int 59]=!NM.plainC n:=by
 unfold NM.plainC;rw[Bool.not_not,Bool.eq_iff_iff];simp only[zA,K0,List.any_nil,CO,Lm,beq_iff_eq,Bool.or_false];lia
inductive Ih (H:Hp) (a:Addr) (bs:List Nat) (st:Nat) (m:Nat) (σ:St) (H':Hp):Prop
 |mk (k:Nat) (_:σ=[some (.ref a),some (iv st),some (iv (st+k))]) (_:ar H H') (_:m+k=bs.length-st) (_:∀j,j<k->∃y,(bs.drop st)[j]?=some y/\NM.plainC y=true)
theorem we(T:Top K mg base c):gz P w K mg base "word_end" 2 ["line","start"] (DH K c):=by
 have g:=T.g;refine T.yE.cl ["line","start","end"] ?_;rintro nd _ _ _ _ _ H _ Q E hr ⟨a,bs,st,rfl,hS,hl,hst,q⟩;refine⟨_,(ae (aR (tR d4 (xL cH (pv 0) (pv 1)) (aQ g.zX)) (ah (ay (pF (r9 T) hr aq (aa (pv 0) (aa (pv 1) ag))))) aB)
  (ae (sS 2 nd (pv 1))
  (ae (hU aA (PW.pt (jT (tR kD (pv 2) (gL T (pv 0))) (iC (mV (sW (K:=K) rfl) (xL cH (pv 0) (pv 2)) (bM (aa (aQ g.FL) (aa (aQ g.zX) (aa (aQ g.tH) ag)))) (by with_unfolding_all rfl))))) (ah (sA 2 nd ak rg)))
  (ah (ay (pv 2)))))),?_⟩
 have hg:bs[st]?=some bs[st]:=Ks hst;have hdr:bs.drop st=bs[st]::bs.drop (st+1):=K8 hst;refine qm (bs[st]≠34) (fun h34=>?_) fun N hN=>?_
 .walk_at "rd";rw[hdr,xG h34,<-hdr]at q;refine oZ (Ih H a bs st) (bs.length-st) ⟨0,rfl,ar.refl _,rfl,fun j hj=>by lia⟩ ?_;rintro m σ H' ⟨k,rfl,s1,hm,hq⟩;have hS':=s1.seq hS;walk_at "rd";refine cD hS' ?_;walk_at "rd";rw[aD];have fin:(∀x,(bs.drop st)[k]?=some x->NM.plainC x=false)->∀H2,ar H H2->Q (iv (st+k)) H2:=fun hx H2 s2=>q.1 k _ _ (by rw[tU hq hx]) s2 rfl;refine aS (fun h1=>?_) fun h1=>fin (fun x hx=>by rw[List.getElem?_eq_none (by rw[J4];lia)]at hx;cases hx) _ s1;have hlt:st+k<bs.length:=by lia
  have hgk:bs[st+k]?=some bs[st+k]:=Ks hlt;have hd:(bs.drop st)[k]?=some bs[st+k]:=by rw[List.getElem?_drop];exact hgk
  refine dP hS' (pj hgk) ?_;walk_at "rd";refine⟨az (by decide),fun p hp=>vW (gG.of af) rfl rfl ?_⟩;rw[JE];walk_at "rd";have s2:ar H (upd H' p (.tup [V.int 32,V.int 34,V.int 59])):=s1.trans (aj hp);cases hpc:NM.plainC bs[st+k]with
  |true =>
   simp only[Bool.not_true,Bool.not_false,if_true];refine⟨fun σ' H'=>∃m',m'<m/\Ih H a bs st m' σ' H',fun σ' H' h=>h,m-1,by lia,k+1,?_,s2,by lia,fun j hj=>?_⟩
   .have e:((st+k:Nat):Int)+1=((st+(k+1):Nat):Int):=by lia
    rw[e]
   .by_cases hjk:j=k
    .subst hjk;exact⟨_,hd,hpc⟩
    .exact hq j (by lia)
  |false =>
   simp only[Bool.not_true,Bool.not_false,if_true,if_false,KB];exact fin (fun x hx=>by rw[hd]at hx;cases hx;exact hpc) _ s2
 .walk_at "rd";refine dP hS (pj hg) ?_;walk_at "rd";refine aS (fun h1=>?_) fun h1=>hN (by lia);have h34:bs[st]=34:=by lia
  rw[hdr,h34]at q;exact⟨a,bs,st,rfl,hS,hl,hst,q⟩
inductive Bj (K:Lq) (c:As) (vs:List V) (H:Hp) (Q:VK) (E:XK):Prop
 |mk (a:Addr) (bs:List Nat) (_:vs=[.ref a]) (_:aY K H a (nz bs)) (_:bs.length<=65536) (_:Res c H Q E (Ls Bt) (NM.wd bs))
inductive Ig (H:Hp) (a:Addr) (bs:List Nat) (l:Addr) (m:Nat) (σ:St) (H':Hp):Prop
 |mk (k:Nat) (x:Option V) (vs:List V) (done:List (List Nat)) (_:σ=[some (.ref a),some (.ref l),some (iv k),x]) (_:ar H H') (_:m+k=bs.length) (_:H' l=some (.lst vs)) (_:Paired (Bt H') vs done) (_:vs.length<=k) (_:(NM.wd (bs.drop k)).map (fun r=>done++r)=NM.wd bs)
theorem kF(T:Top K mg base c):gz P w K mg base "split_words" 3 ["line"] (Bj K c):=by
 have g:=T.g;have hk:=T.hk;refine T.sj.cl ["line","words","place","end"] ?_;rintro nd _ _ _ _ _ H _ Q E hr ⟨a,bs,rfl,hS,hl,q⟩;refine⟨_,(ae (sS 1 nd (bN ag))
  (ae (sS 2 nd ak)
  (ae (hU aA (PW.pt (jT (tR kD (pv 2) (gL T (pv 0))) (iC (tR gM (xL cH (pv 0) (pv 2)) (aQ g.tH))))) (ah (aR (tR d4 (xL cH (pv 0) (pv 2)) (aQ g.FL)) (ah (sA 2 nd ak rg)) (ae (sS 3 nd (pF (we T) hr aq (aa (pv 0) (aa (pv 2) ag))))
  (ae (aM (fo Ka KJ KI fz (pv 1) (aa (dS (fu (K:=K) rfl) (by rfl) g.tuple fw (aa (bF f9 (pv 0) (bD (pv 2)) (bD (pv 3))) ag)) ag)))
  (ah (sS 2 nd (pv 3))))))))
  (ah (ay (pv 1)))))),?_⟩
 walk_at "rd";refine⟨az (by decide),fun l hl0=>?_⟩;refine oZ (Ig H a bs l) bs.length
  ⟨0,none,[],[],rfl,aj hl0,rfl,af,.nil,JY _,by simp⟩ ?_
 rintro m σ H' ⟨k,x,vs,done,rfl,s1,hm,h3,h4,h5,h6⟩;have hS':=s1.seq hS;walk_at "rd";refine cD hS' ?_;walk_at "rd";rw[aD];have fin:NM.wd (bs.drop k)=some []->Q (.ref l) H':=fun e=>by
  rw[e]at h6;exact q.1 done _ _ (by rw[<-h6];simp) s1 ⟨l,vs,rfl,h3,h4⟩
 refine aS (fun h1=>?_) fun h1=>fin (by rw[List.drop_of_length_le (by lia)];exact tT);have hk:k<bs.length:=by lia
 have hg:bs[k]?=some bs[k]:=Ks hk;have hdr:bs.drop k=bs[k]::bs.drop (k+1):=K8 hk;refine dP hS' (pj hg) ?_;walk_at "rd";walk_at "de";by_cases h59:bs[k]=59
 .rw[JU (by lia)];exact fin (by rw[hdr,h59];exact tQ _)
 rw[JX (by lia)];refine⟨fun σ' H'=>∃m',m'<m/\Ig H a bs l m' σ' H',fun σ' H' h=>h,?_⟩;refine dP hS' (pj hg) ?_;walk_at "rd";refine aS (fun h32=>?_) fun h32=>?_
 .have h32':bs[k]=32:=by lia
  refine⟨m-1,by lia,k+1,x,vs,done,rfl,s1,by lia,h3,h4,by lia,?_⟩;rw[hdr,h32',p8]at h6;exact h6
 .have h32':bs[k]≠32:=by lia
  have hw:=tP (bs.drop (k+1)) h32' h59;rw[<-hdr]at hw;refine⟨a,bs,k,rfl,hS',hl,hk,fun n v H2 hn s2 hv=>?_,fun hn H2 s2=>?_⟩
  .subst hv;rw[hn]at hw;dsimp only at hw;have hb:=kl h32' h59 (by rw[<-hdr];exact hn);rw[<-hdr,J4]at hb;walk_at "rd";have h32:=s2 _ _ h3;refine⟨oX h32,tq (s2.seq hS') fun v2 H3 s3 hv2=>?_⟩;obtain⟨b,rfl,hb2⟩:=hv2;rw[rJ]at hb2;refine kY (aY.of hb2) fun v4 H4 s4 hv4=>?_;have h34:=s4 _ _ (s3 _ _ h32);refine goApp h34 (by lia) ?_;have lk:Lk H4 (upd H4 l (.lst (vs++[v4]))):=jZ h34;refine⟨m-n,by lia,k+n,_,vs++[v4],done++[(bs.take (k+n)).drop k],rfl,a8 (((s1.trans s2).trans s3).trans s4) hl0,by lia,af,?_,by simp;lia,?_⟩
   .exact Paired.snoc (Paired.imp (fun v p r=>Bt.lk (Bt.same (Bt.same (Bt.same r s2) s3) s4) lk) h4) (Bt.lk hv4 lk)
   .rw[<-h6,hw,List.drop_drop];have e:(bs.take (k+n)).drop k=(bs.drop k).take n:=by rw[List.drop_take];congr 1;lia
    rw[e];cases NM.wd (bs.drop (k+n)) with
    |none=>rfl
    |some r=>simp
  .rw[hn]at hw;rw[hw]at h6;exact q.2 h6.symm _ (s1.trans s2)
end
theorem BG(n d:Nat):HT.fS n d (some (-1))=n-1:=by
 unfold HT.fS;simp;lia
theorem GO(bs:List Nat):fK (nz bs) none (some (-1))=nz bs.dropLast:=by
 unfold fK;rw[HT.qp,BG,List.drop_zero,Nat.sub_zero,aD,pZ,List.dropLast_eq_take]
theorem EG(bs:List Nat):fK (nz bs) (some 1) (some (-1))=nz (bs.drop 1).dropLast:=by
 unfold fK;have e:HT.fS (nz bs).length 0 (some 1)=min 1 (nz bs).length:=HT.mS _ _ 1;rw[e,BG,aD,List.dropLast_eq_take,J4];cases bs with
 |nil=>rfl
 |cons b r =>
  have e2:min 1 (b::r).length=1:=by rw[JS];lia
  rw[e2,uA,pZ]
theorem zS{bs:List Nat}(h:bs≠[]):∃k,bs.getLast?=some k/\xn (nz bs) (-1)=some (iv k):=by
 refine⟨bs.getLast h,List.getLast?_eq_some_getLast h,?_⟩;have e:nz bs=nz bs.dropLast++[iv (bs.getLast h)]:=by
  have:=List.dropLast_concat_getLast h;have e2:nz bs=nz (bs.dropLast++[bs.getLast h]):=by rw[this]
  rw[e2,<-eF];rfl
 rw[e];exact Dd _ _
section
inductive DI (c:As) (vs:List V) (H:Hp) (Q:VK) (E:XK):Prop
 |mk (v:V) (bs:List Nat) (_:vs=[v]) (_:Bt H v bs) (_:bs≠[]) (_:Res c H Q E Bt (NM.readText bs))
theorem uw(T:Top K mg base c):gz P w K mg base "read_text" 1 ["word"] (DI c):=by
 have g:=T.g;have hk:=T.hk;refine T.wY.cl ["word"] ?_;rintro nd _ _ _ _ _ H _ Q E hr ⟨v,bs,rfl,hB,hne,q⟩;refine⟨_,(ae (aR (PW.pt (o5 (tR gM (xL dG (pv 0) ak) (aQ g.zX)) (kx (tR iP (aP gj (gL T (pv 0)) ak) (aQ g.vq))))) (ah (bA T.aT hk aq)) aB)
  (ah (ay (bF fO (pv 0) (bD ak) (bD (mX jO ak)))))),?_⟩
 obtain⟨a,rfl,r⟩:=hB;obtain⟨b,rest,rfl⟩:∃b r',bs=b::r':=by
  cases bs with
  |nil=>exact absurd rfl hne
  |cons b r'=>exact⟨b,r',rfl⟩
 unfold NM.readText at q;refine qm (b=34/\¬257<(b::rest).length) (fun hc=>?_) fun N hN=>?_
 .rw[JU (by rw[K6];simp only[ne_eq,Option.some.injEq,not_or,Decidable.not_not];exact hc)]at q;walk_at "rd";refine jE r fun v H' s t=>?_;exact q.1 _ _ _ rfl s (by rw[EG]at t;exact t)
 .walk_at "rd";refine cT (.inl r) (va b rest) ?_;walk_at "rd";refine aS (fun h1=>q.2 (by rw[JX (.inl (by rw[K6];intro z;injection z with z;lia))]) _ (ar.refl _)) fun h1=>?_;refine fi (.inl r) ?_;walk_at "rd";refine aS (fun h2=>q.2 (by rw[JX (.inr (by rw[aD]at h2;rw[JS];lia))]) _ (ar.refl _)) fun h2=>?_;exact hN ⟨by lia,by rw[aD]at h2;rw[JS];lia⟩
inductive Ab (c:As) (vs:List V) (H:Hp) (Q:VK) (E:XK):Prop
 |mk (v:V) (bs:List Nat) (_:vs=[v]) (_:Bt H v bs) (_:bs.length<=65536) (_:Res c H Q E Bt (gn bs))
theorem mc(T:Top K mg base c):gz P w K mg base "read_label" 3 ["octets"] (Ab c):=by
 have g:=T.g;have hk:=T.hk;refine T.u0.cl ["octets","label","octet"] ?_;rintro nd _ _ _ _ _ H _ Q E hr ⟨v,bs,rfl,hB,hl,q⟩;refine⟨_,(ae (sS 1 nd (pF (kG T) hr aq (aa (pv 0) ag)))
  (ae (aR (PW.pt (o5 (jV (iN fX fX ak (gL T (pv 1)) (aQ g.ml))) (kx (jV (jU (jw (C7 (K:=K) rfl rfl) (by rfl) g.all Da (aa (gh (own:=[("octet",2)]) aq rfl rfl rfl nd (oq (pv 1)) (cP (by kernel_rfl)) (fun _ _ _ _ _ _ hA=>(gN 2 nd)) (fun _ _ _ _ _ _ hA=>fE) (fun _ _ _ _ _ _ hA=>(pF (ow T) hr hA (aa (pv 2) ag)))) ag))))))) (ah (bA T.aT hk aq)) aB)
  (ah (ay (pv 1))))),?_⟩
 obtain⟨a,rfl,r⟩:=hB;unfold gn at q;walk_at "rd";refine⟨a,bs,rfl,.inr (.inl r),hl,fun v1 H1 s1 b1=>?_⟩;have b1':=b1;obtain⟨a1,rfl,r1⟩:=b1;walk_at "rd";refine fi (.inl r1) ?_;rw[aD];generalize bs.map Sn12.lower=ls at q r1 b1';have q1:=q.from s1;have bad:¬(1<=ls.length/\ls.length<=63)->E (Value.ref c.CN) none H1:=fun h=>by
  rw[JU]at q1
  .exact q1.2 rfl _ (ar.refl _)
  .unfold fg;rw[Kl h,Bool.false_and];decide
 walk_at "rd";refine aS (fun h1=>aS (fun h2=>bad (by lia)) fun h2=>⟨⟨_,.inl r1⟩,fun D hD=>?_⟩) fun h1=>bad (by lia);refine ja (Walk.t (.inl r1)) (R:=In) (S:=fun _ v b=>v=V.bl b) zr (fun _ _ _ _ _ h=>h) (fun _ _ _ _ _ h=>h) Sn12.labelChar (by lia) hD (fun i d x H' k h1 h2 h3 h4=>?_) fun acc H' ha hp s=>?_
 .subst h2;walk_at "rd";exact⟨d,rfl,fun H4 s4=>h4 _ _ s4 rfl⟩
 .have e:acc=(ls.map Sn12.labelChar).map V.bl:=by
   generalize ls.map Sn12.labelChar=bl at hp;clear ha;induction hp with
   |nil=>rfl
   |cons r t ih=>rw[r,ih];rfl
  rw[e]at ha;refine FI (aY.of ha) ?_;walk_at "rd";have e2:fg ls=(ls.map Sn12.labelChar).all id:=by
   unfold fg;rw[KO (by lia:1<=ls.length/\ls.length<=63),Bool.true_and,List.all_map];rfl
  rw[e2]at q1;cases hb:(ls.map Sn12.labelChar).all id with
  |true =>
   rw[hb,JX rfl]at q1;simp only[Bool.not_true,KB,if_false];exact q1.1 _ _ _ rfl s (Bt.same b1' s)
  |false =>
   rw[hb,JU (by decide)]at q1;simp only[Bool.not_false,if_true];exact q1.2 rfl _ s
noncomputable def nW(c:As)(H:Hp):Prop:=Rd H c.star (.tup (nz [42]))
theorem nW.same(h:nW c H)(s:ar H H'):nW c H':=ar.rd s h
theorem nW.bt(h:nW c H):Bt H (.ref c.star) [42]:=⟨_,rfl,h⟩
inductive xU (c:As) (vs:List V) (H:Hp) (Q:VK) (E:XK):Prop
 |mk (v:V) (bs:List Nat) (_:vs=[v]) (_:Bt H v bs) (_:bs.length<=65536) (_:nW c H) (_:Res c H Q E Nm (fH bs))
theorem kJ(T:Top K mg base c):gz P w K mg base "read_labels" 4 ["word"] (xU c):=by
 have g:=T.g;refine T.sy.cl ["word","parts","part"] ?_;rintro nd _ _ _ _ _ H _ Q E hr ⟨v,bs,rfl,hB,hl,hs,q⟩;refine⟨_,(ae (sS 1 nd (pF (i9 T) hr aq (aa (pv 0) (aa (aQ g.Io) ag))))
  (ae (aR (tR (mr (dZ hr)) (xL cH (pv 1) ak) (iD (v:=V.ref c.star) rfl T.ES rfl)) (ah (ay (aP lI (bM (aa (iD (v:=V.ref c.star) rfl T.ES rfl) ag)) (dS (fu (K:=K) rfl) (by rfl) g.tuple fw (aa (gh (own:=[("part",2)]) aq rfl rfl rfl nd (cG (bF f9 (pv 1) (bD ak) dO)) (cP (by kernel_rfl)) (fun _ _ _ _ _ _ hA=>(gN 2 nd)) (fun _ _ _ _ _ _ hA=>fE) (fun _ _ _ _ _ _ hA=>(pF (mc T) hr hA (aa (pv 2) ag)))) ag))))) aB)
  (ah (ay (dS (fu (K:=K) rfl) (by rfl) g.tuple fw (aa (gh (own:=[("part",2)]) aq rfl rfl rfl nd (cG (pv 1)) (cP (by kernel_rfl)) (fun _ _ _ _ _ _ hA=>(gN 2 nd)) (fun _ _ _ _ _ _ hA=>fE) (fun _ _ _ _ _ _ hA=>(pF (mc T) hr hA (aa (pv 2) ag)))) ag)))))),?_⟩
 obtain⟨a,rfl,r⟩:=hB;unfold fH at q;walk_at "rd";refine⟨a,bs,46,rfl,hl,.inr ⟨r,fun v1 H1 s1 b1=>?_⟩⟩;have hlen:=gR 46 bs [];have hmem:=fun p=>jr 46 bs [] p;obtain⟨l,vs,rfl,hl1,hp⟩:=b1;cases hcut:NM.cutAt 46 bs []with
 |nil=>exact absurd hcut (jI _ _ _)
 |cons p ps =>
  rw[hcut]at q hp hlen hmem;obtain⟨v0,vs',rfl,hv0,hps⟩:∃v0 vs',vs=v0::vs'/\Bt H1 v0 p/\Paired (Bt H1) vs' ps:=by
   cases hp with
   |cons r t=>exact⟨_,_,rfl,r,t⟩
  dsimp only at q;have hs1:=hs.same s1;have q1:=q.from s1;walk_at "rd";refine dP (aY.of hl1) (v:=v0) (bG (j:=0) rfl) ?_;refine wJ hv0 hs1.bt ?_;walk_at "rd";refine aS (fun h42=>⟨az (by decide),fun t ht=>?_⟩) fun h42=>⟨⟨_,aY.of hl1⟩,fun D hD=>?_⟩
  .rw[JX h42]at q1;have st:=aj (o:=.tup [V.ref c.star]) ht;refine tq (aY.of (st _ _ hl1)) fun v2 H2 s2 hv2=>?_;obtain⟨b,rfl,hb⟩:=hv2;have ecut:fK (v0::vs') (some 1) none=vs':=fq (v0::vs') 1;rw[ecut]at hb;have s02:=st.trans s2;walk_at "rd";refine⟨⟨_,aY.of hb⟩,fun D hD=>?_⟩;refine jD (Walk.l (aY.of hb)) (R:=Bt) (S:=Bt) (Paired.imp (fun _ _ r=>Bt.same r s02) hps) (fun _ _ _ _ s h=>Bt.same h s) (fun _ _ _ _ s h=>Bt.lk h s) gn (by rw[JS]at hlen;lia) hD (Bad:=fun H'=>E (.ref c.CN) none H') (fun hn H' s'=>q1.2 (by rw[hn];rfl) _ (s02.trans s')) (fun i d x H' k h1 h2 h3 h4 h5=>?_) fun es acc H' he ha hpa s3=>?_
   .walk_at "rd";have hdl:d.length<=65536:=by
     have:=hmem d (J0 _ (Kr h1));rw[J7]at this;lia
    exact⟨x,d,rfl,h2,hdl,fun e y H4 hf s4 b4=>h4 e y H4 hf s4 b4,fun hf H4 s4=>h5 hf H4 s4⟩
   .refine zC (aY.of ha) fun u hu=>?_;have su:=aj (o:=.tup acc) hu;have s4:=(s2.trans s3).trans su;have hes:=bB _ _ _ he;have hac:acc.length=es.length:=Paired.length hpa;refine wL (.inl (s4 _ _ af)) (.inl af) (by simp) (by rw[JS]at hlen;simp;lia) fun v5 H5 s5 t5=>?_;refine q1.1 _ _ _ (by rw[he];rfl) ((st.trans s4).trans s5) ⟨_,t5,?_⟩;exact .cons (Bt.same hs1.bt ((st.trans s4).trans s5)) (Paired.imp (fun _ _ r=>Bt.same r (su.trans s5)) hpa)
  .rw[JU h42]at q1;refine jD (Walk.l (aY.of hl1)) (R:=Bt) (S:=Bt) hp (fun _ _ _ _ s h=>Bt.same h s) (fun _ _ _ _ s h=>Bt.lk h s) gn (by lia) hD (Bad:=fun H'=>E (.ref c.CN) none H') (fun hn H' s'=>q1.2 hn _ s') (fun i d x H' k h1 h2 h3 h4 h5=>?_) fun es acc H' he ha hpa s3=>?_
   .walk_at "rd";have hdl:d.length<=65536:=by
     have:=hmem d (Kr h1);rw[J7]at this;lia
    exact⟨x,d,rfl,h2,hdl,fun e y H4 hf s4 b4=>h4 e y H4 hf s4 b4,fun hf H4 s4=>h5 hf H4 s4⟩
   .refine zC (aY.of ha) fun u hu=>?_;have su:=aj (o:=.tup acc) hu;exact q1.1 _ _ _ he (s3.trans su) ⟨_,Tp.new,Paired.imp (fun _ _ r=>Bt.same r su) hpa⟩
theorem qY{bs:List Nat}(h:fH bs=some n):n.length<=bs.length+1/\n≠[]:=by
 unfold fH at h;have hlen:=gR 46 bs [];cases hcut:NM.cutAt 46 bs []with
 |nil=>exact absurd hcut (jI _ _ _)
 |cons p ps =>
  rw[hcut]at h hlen;dsimp only at h;rw[JS]at hlen;by_cases h42:p=[42]
  .rw[JX h42]at h;cases hm:ps.mapM gn with
   |none=>rw[hm]at h;cases h
   |some es =>
    rw[hm]at h;cases h;have:=bB _ _ _ hm;exact⟨by rw[JS];lia,by simp⟩
  .rw[JU h42]at h;have:=bB _ _ _ h;rw[JS]at this;exact⟨by lia,by intro z;rw[z]at this;simp at this⟩
inductive Br (c:As) (vs:List V) (H:Hp) (Q:VK) (E:XK):Prop
 |mk (v u:V) (bs:List Nat) (o:List (List Nat)) (_:vs=[v,u]) (_:Bt H v bs) (_:bs≠[]) (_:bs.length<=60000) (_:Nm H u o) (_:o.length<=1000) (_:nW c H) (_:Res c H Q E Nm (NM.readName o bs))
theorem jW(T:Top K mg base c):gz P w K mg base "read_name" 5 ["word","origin"] (Br c):=by
 have g:=T.g;have hk:=T.hk;refine T.w4.cl ["word","origin","name"] ?_;rintro nd _ _ _ _ _ H _ Q E hr ⟨v,u,bs,o,rfl,hB,hne,hl,hO,hol,hs,q⟩;refine⟨_,(ae (aR (tR (mr (dZ hr)) (pv 0) (bM (aa (aQ g.E5) ag))) (ah (ay (pv 1))) aB)
  (ae (aR (tR (mr (dZ hr)) (pv 0) (bM (aa (aQ g.Io) ag))) (ah (ay (bM ag))) aB)
  (ae (aR (tR d4 (xL dG (pv 0) (mX jO ak)) (aQ g.Io)) (ah (sS 2 nd (pF (kJ T) hr aq (aa (bF fO (pv 0) dO (bD (mX jO ak))) ag)))) (ah (sS 2 nd (aP lI (pF (kJ T) hr aq (aa (pv 0) ag)) (pv 1)))))
  (ae (aR (tR iP (pF (ng T) hr aq (aa (pv 2) ag)) (aQ g.nX)) (ah (bA T.aT hk aq)) aB)
  (ah (ay (pv 2))))))),?_⟩
 have hB':=hB;have hO':=hO;obtain⟨a,rfl,r⟩:=hB;unfold NM.readName at q;walk_at "rd";refine⟨az (by decide),fun t ht=>?_⟩;have s1:=aj (o:=.tup [V.int 64]) ht;have hb64:Bt (upd H t (.tup [V.int 64])) (.ref t) [64]:=Bt.new (bs:=[64]);generalize upd H t (.tup [V.int 64])=H1 at s1 hb64;refine wJ (hB'.same s1) hb64 ?_;walk_at "rd";refine aS (fun h64=>?_) fun h64=>⟨az (by decide),fun t2 ht2=>?_⟩
 .rw[JX h64]at q;exact q.1 _ _ _ rfl s1 (hO'.same s1)
 rw[JU h64]at q;have s2:=s1.trans (aj (o:=.tup [V.int 46]) ht2);have hb46:Bt (upd H1 t2 (.tup [V.int 46])) (.ref t2) [46]:=Bt.new (bs:=[46]);generalize upd H1 t2 (.tup [V.int 46])=H2 at s2 hb46;refine wJ (hB'.same s2) hb46 ?_;walk_at "rd";refine aS (fun h46=>⟨az (by decide),fun p hp=>?_⟩) fun h46=>?_
 .rw[JX h46]at q;exact q.1 _ _ _ rfl (s2.trans (aj hp)) Nm.nil
 rw[JU h46]at q;have tail:∀(x:V) (H3:Hp) (n:List (List Nat)),ar H H3->Nm H3 x n->n.length<=65536->Res c H Q E Nm (if 255<Sn12.size n then none else some n) ->
   y4 [x] H3 (fun x_1 H1=>zk (fun i j=>V.bl (decide (j<i))) x_1 (V.int 255) H1 fun x_2 H'=>uM x_2 fun k=>if k=true then E (Value.ref c.CN) none H' else Q x H') E:=by
  intro x H3 n s3 hn hl3 q3;refine⟨x,n,rfl,hn,hl3,fun H4 s4=>?_⟩;walk_at "rd";refine aS (fun h=>?_) fun h=>?_
  .rw[JX (by lia)]at q3;exact q3.2 rfl _ (s3.trans s4)
  .rw[JU (by lia)]at q3;exact q3.1 _ _ _ rfl (s3.trans s4) (hn.same s4)
 obtain⟨k,hk,hak⟩:=zS hne;have r2:=ar.rd s2 r;refine cT (.inl r2) hak ?_;walk_at "rd";refine aS (fun hd=>?_) fun hd=>?_
 .rw[JX (by rw[hk];congr 1;lia)]at q;refine jE r2 fun v3 H3 s3 t3=>?_;rw[GO]at t3;refine⟨v3,bs.dropLast,rfl,t3,by rw[List.length_dropLast];lia,hs.same (s2.trans s3),fun n v4 H4 hn s4 b4=>?_,fun hn H4 s4=>?_⟩
  .rw[hn]at q;have:=(qY hn).1;rw[List.length_dropLast]at this;exact tail v4 H4 n ((s2.trans s3).trans s4) b4 (by lia) q
  .rw[hn]at q;exact q.2 rfl _ ((s2.trans s3).trans s4)
 .rw[JU (by rw[hk];intro z;injection z with z;lia)]at q;refine⟨.ref a,bs,rfl,hB'.same s2,by lia,hs.same s2,fun n v4 H4 hn s4 b4=>?_,fun hn H4 s4=>?_⟩
  .rw[hn]at q;have hnl:=qY hn;have b4':=b4;obtain⟨vs4,⟨a4,rfl,r4⟩,p4⟩:=b4;obtain⟨vso,⟨ao,rfl,ro⟩,po⟩:=hO'.same (s2.trans s4);have l4:=Paired.length p4;have lo:=Paired.length po;refine wL r4 ro (by intro z;rw[z]at l4;exact hnl.2 (List.eq_nil_of_length_eq_zero l4.symm)) (by lia) fun v5 H5 s5 t5=>?_;exact tail v5 H5 (n++o) ((s2.trans s4).trans s5) ⟨_,t5,Paired.imp (fun _ _ r=>Bt.same r s5) (Paired.app p4 po)⟩ (by rw[JT];lia) q
  .rw[hn]at q;exact q.2 rfl _ (s2.trans s4)
inductive xT (c:As) (vs:List V) (H:Hp) (Q:VK) (E:XK):Prop
 |mk (v:V) (bs:List Nat) (_:vs=[v]) (_:Bt H v bs) (_:bs≠[]) (_:bs.length<=60000) (_:nW c H) (_:Res c H Q E Nm (gI bs))
theorem qK(T:Top K mg base c):gz P w K mg base "read_origin" 6 ["word"] (xT c):=by
 have g:=T.g;have hk:=T.hk;refine T.sr.cl ["word","name"] ?_;rintro nd _ _ _ _ _ H _ Q E hr ⟨v,bs,rfl,hB,hne,hl,hs,q⟩;refine⟨_,(ae (aR (tR gM (xL dG (pv 0) (mX jO ak)) (aQ g.Io)) (ah (bA T.aT hk aq)) aB)
  (ae (sS 1 nd (pF (jW T) hr aq (aa (pv 0) (aa (bM ag) ag))))
  (ae (aR (PW.pt (o5 (tR (mr (dZ hr)) (pv 1) (bM ag)) (kx (tR (mr (dZ hr)) (xL dG (pv 1) ak) (iD (v:=V.ref c.star) rfl T.ES rfl))))) (ah (bA T.aT hk aq)) aB)
  (ah (ay (pv 1)))))),?_⟩
 have hB':=hB;obtain⟨a,rfl,r⟩:=hB;unfold gI at q;obtain⟨k,hk,hak⟩:=zS hne;walk_at "rd";refine cT (.inl r) hak ?_;walk_at "rd";refine aS (fun h1=>?_) fun h1=>⟨az (by decide),fun t ht=>?_⟩
 .rw[JX (by rw[hk];intro z;injection z with z;lia)]at q;exact q.2 rfl _ (ar.refl _)
 rw[JU (by rw[hk];simp only[ne_eq,Option.some.injEq,Decidable.not_not];lia)]at q;have s1:=aj (o:=.tup []) ht;refine⟨.ref a,.ref t,bs,[],rfl,hB'.same s1,hne,hl,Nm.nil,by decide,hs.same s1,fun n v2 H2 hn s2 b2=>⟨az (by decide),fun t2 ht2=>?_⟩,fun hn H2 s2=>?_⟩
 .rw[hn]at q;dsimp only[Option.bind_some]at q;have s3:=(s1.trans s2).trans (aj (o:=.tup []) ht2);have s23:ar H2 (upd H2 t2 (.tup [])):=aj ht2;refine FH (b2.same s23) Nm.nil ?_;walk_at "rd";refine aS (fun h2=>?_) fun h2=>?_
  .rw[JX (.inl h2)]at q;exact q.2 rfl _ s3
  .obtain⟨x,n',rfl⟩:∃x n',n=x::n':=by
    cases n with
    |nil=>exact absurd rfl h2
    |cons x n'=>exact⟨x,n',rfl⟩
   have b3:=b2.same s23;have b3':=b3;obtain⟨vs,⟨e,rfl,re⟩,pe⟩:=b3;obtain⟨y,vs',rfl,hy⟩:∃y vs',vs=y::vs'/\Bt (upd H2 t2 (.tup [])) y x:=by
    cases pe with
    |cons r t=>exact⟨_,_,rfl,r⟩
   refine cT (.inl re) (v:=y) (bG (j:=0) rfl) ?_;refine wJ hy (hs.same s3).bt ?_;walk_at "rd";refine aS (fun h3=>?_) fun h3=>?_
   .rw[JX (.inr (by rw[K6,h3]))]at q;exact q.2 rfl _ s3
   .rw[JU (by rw[K6,Option.some.injEq];simp only[not_or];exact⟨h2,h3⟩)]at q;exact q.1 _ _ _ rfl s3 b3'
 .rw[hn]at q;exact q.2 rfl _ (s1.trans s2)
end
section
inductive vN (c:As) (vs:List V) (H:Hp) (Q:VK) (E:XK):Prop
 |mk (v:V) (bs:List Nat) (_:vs=[v]) (_:Bt H v bs) (_:bs.length<=65536) (_:Res c H Q E Bt (gk bs))
theorem j9(T:Top K mg base c):gz P w K mg base "read_short_address" 2 ["word"] (vN c):=by
 have g:=T.g;have hk:=T.hk;refine T.k9.cl ["word","parts","part"] ?_;rintro nd _ _ _ _ _ H _ Q E hr ⟨v,bs,rfl,hB,hl,q⟩;refine⟨_,(ae (sS 1 nd (pF (i9 T) hr aq (aa (pv 0) (aa (aQ g.Io) ag))))
  (ae (aR (tR gM (gL T (pv 1)) ak) (ah (bA T.aT hk aq)) aB)
  (ah (ay (dS (fu (K:=K) rfl) (by rfl) g.tuple fw (aa (gh (own:=[("part",2)]) aq rfl rfl rfl nd (cG (pv 1)) (cP (by kernel_rfl)) (fun _ _ _ _ _ _ hA=>(gN 2 nd)) (fun _ _ _ _ _ _ hA=>fE) (fun _ _ _ _ _ _ hA=>(pF (gY T) hr hA (aa (pv 2) (aa ak ag))))) ag)))))),?_⟩
 obtain⟨a,rfl,r⟩:=hB;unfold gk at q;have hlen:=gR 46 bs [];walk_at "rd";refine⟨a,bs,46,rfl,hl,.inr ⟨r,fun v1 H1 s1 b1=>?_⟩⟩;obtain⟨l,vs,rfl,hl1,hp⟩:=b1;generalize NM.cutAt 46 bs []=ps at q hp hlen;have hpl:=Paired.length hp;have q1:=q.from s1;walk_at "rd";refine cD (aY.of hl1) ?_;walk_at "rd";refine aS (fun h4=>?_) fun h4=>⟨⟨_,aY.of hl1⟩,fun D hD=>?_⟩
 .rw[JX (by lia)]at q1;exact q1.2 rfl _ (ar.refl _)
 .rw[JU (by lia)]at q1;refine jD (Walk.l (aY.of hl1)) (R:=Bt) (S:=In) hp (fun _ _ _ _ s h=>Bt.same h s) (fun _ _ _ _ s h=>h) (fun p=>NM.whole p 255) (by lia) hD (Bad:=fun H'=>E (.ref c.CN) none H') (fun hn H' s'=>q1.2 hn _ s') (fun i d x H' k h1 h2 h3 h4 h5=>?_) fun es acc H' he ha hpa s3=>?_
  .walk_at "rd";exact⟨x,d,255,rfl,h2,fun e y H4 hf s4 b4=>h4 e y H4 hf s4 b4,fun hf H4 s4=>h5 hf H4 s4⟩
  .rw[wA hpa]at ha;exact kY (aY.of ha) fun v H4 s4 b=>q1.1 _ _ _ he (s3.trans s4) b
inductive FZ (c:As) (vs:List V) (H:Hp) (Q:VK) (E:XK):Prop
 |mk (n:Nat) (_:vs=[iv n]) (_:Res c H Q E In (wF n))
theorem uz(T:Top K mg base c):gz P w K mg base "hex_digit" 2 ["octet"] (FZ c):=by
 have hk:=T.hk;refine T.xg.cl ["octet","small"] ?_;rintro nd _ _ _ _ _ H _ Q E hr ⟨n,rfl,q⟩;refine⟨_,(ae (sS 1 nd (pF (j7 T) hr aq (aa (pv 0) ag)))
  (ae (aR (iN fX fX ak (pv 1) ak) (ah (ay (aP gj (pv 1) ak))) aB)
  (ae (aR (iN fX fX ak (pv 1) ak) (ah (ay (aP gj (pv 1) ak))) aB)
  (ah (bA T.aT hk aq))))),?_⟩
 unfold wF at q;walk_at "rd";refine⟨n,rfl,?_⟩;generalize Sn12.lower n=m at q;have t1:(48<=m/\m<=57)->Q (V.int ((m:Int)-48)) H:=fun h=>by
  rw[JX h]at q;exact q.1 _ _ _ rfl (ar.refl _) (by show V.int _=V.int _;congr 1;lia)
 have t2:¬(48<=m/\m<=57)->(97<=m/\m<=102)->Q (V.int ((m:Int)-87)) H:=fun h h2=>by
  rw[JU h,JX h2]at q;exact q.1 _ _ _ rfl (ar.refl _) (by show V.int _=V.int _;congr 1;lia)
 have t3:¬(48<=m/\m<=57)->¬(97<=m/\m<=102)->E (.ref c.CN) none H:=fun h h2=>by
  rw[JU h,JU h2]at q;exact q.2 rfl _ (ar.refl _)
 walk_at "rd";refine aS (fun h1=>aS (fun h2=>t1 (by lia)) fun h2=>?_) fun h1=>?_
 .exact aS (fun h3=>aS (fun h4=>t2 (by lia) (by lia)) fun h4=>t3 (by lia) (by lia)) fun h3=>t3 (by lia) (by lia)
 .exact aS (fun h3=>aS (fun h4=>t2 (by lia) (by lia)) fun h4=>t3 (by lia) (by lia)) fun h3=>t3 (by lia) (by lia)
inductive BB (c:As) (vs:List V) (H:Hp) (Q:VK) (E:XK):Prop
 |mk (v:V) (bs:List Nat) (_:vs=[v]) (_:Bt H v bs) (_:Res c H Q E In (fP bs))
theorem Cy{bs:List Nat}{i n:Nat}(h:bs[i]?=some k):j8 (bs.drop i) n=(wF k).bind fun d=>j8 (bs.drop (i+1)) (n*16+d):=by
 have hi:i<bs.length:=(JW.mp h).1;have e:bs[i]=k:=(JW.mp h).2;rw[K8 hi,e];rfl
inductive Ja (H:Hp) (bs:List Nat) (a:Addr) (i:Nat) (σ:St) (H':Hp):Prop
 |mk (n:Nat) (x:Option V) (_:σ=[some (.ref a),some (iv n),x]) (_:ar H H') (_:j8 (bs.drop i) n=j8 bs 0)
theorem r8(T:Top K mg base c):gz P w K mg base "read_group" 3 ["octets"] (BB c):=by
 have g:=T.g;have hk:=T.hk;refine T.u4.cl ["octets","number","octet"] ?_;rintro nd _ _ _ _ _ H _ Q E hr ⟨v,bs,rfl,hB,q⟩;refine⟨_,(ae (aR (jV (iN fX fX ak (gL T (pv 0)) (aQ g.sL))) (ah (bA T.aT hk aq)) aB)
  (ae (sS 1 nd ak)
  (ae (d3 aA rfl (oq (pv 0)) (gN 2 nd) (ah (sS 1 nd (aP dX (aP yg (pv 1) ak) (pF (uz T) hr aq (aa (pv 2) ag))))))
  (ah (ay (pv 1)))))),?_⟩
 obtain⟨a,rfl,r⟩:=hB;unfold fP at q;refine qm (1<=bs.length/\bs.length<=4) (fun hc=>?_) fun N hN=>?_
 .rw[JU (by lia)]at q;walk_at "rd";refine⟨⟨_,.inl r⟩,xP (xs:=nz bs) (Ja H bs a) ⟨0,_,rfl,ar.refl _,rfl⟩ (fun i σ H' _ ⟨_,_,_,s,_⟩=>.inl (ar.rd s r)) ?_ ?_⟩
  .rintro i x σ H' hx ⟨n,x1,rfl,s1,hn⟩;obtain⟨k,hk1,rfl⟩:=qO hx;have hd:=Cy (n:=n) hk1;walk_at "rd";refine⟨.inr ⟨by decide,by decide⟩,k,rfl,fun d v2 H2 hd2 s2 hv2=>?_,fun hd2 H2 s2=>?_⟩
   .subst hv2;walk_at "rd";have e:((n:Int)*16+(d:Int))=((n*16+d:Nat):Int):=by lia
    rw[e];exact⟨_,_,rfl,s1.trans s2,by rw[<-hn,hd,hd2];rfl⟩
   .exact q.2 (by rw[<-hn,hd,hd2];rfl) _ (s1.trans s2)
  .rintro σ H' ⟨n,x1,rfl,s1,hn⟩;rw[aD,List.drop_length]at hn;walk_at "rd";exact q.1 n _ _ (by rw[<-hn];rfl) s1 rfl
 .walk_at "rd";refine fi (.inl r) ?_;walk_at "rd";rw[aD];have bad:¬(1<=bs.length/\bs.length<=4)->E (.ref c.CN) none H:=fun h=>by
   rw[JX h]at q;exact q.2 rfl _ (ar.refl _)
  exact aS (fun h1=>aS (fun h2=>bad (by lia)) fun h2=>hN (by lia)) fun h1=>bad (by lia)
inductive Ac (c:As) (vs:List V) (H:Hp) (Q:VK) (E:XK):Prop
 |mk (v:V) (bs:List Nat) (_:vs=[v]) (_:Bt H v bs) (_:bs.length<=65536) (_:Res c H Q E Fl (bI bs))
theorem iQ(T:Top K mg base c):gz P w K mg base "read_groups" 4 ["octets"] (Ac c):=by
 have g:=T.g;refine T.sC.cl ["octets","part"] ?_;rintro nd _ _ _ _ _ H _ Q E hr ⟨v,bs,rfl,hB,hl,q⟩;refine⟨_,(ah (ay (gh (own:=[("part",1)]) aq rfl rfl rfl nd (cG (pF (i9 T) hr aq (aa (pv 0) (aa (aQ g.Ds) ag)))) (cP (by kernel_rfl)) (fun _ _ _ _ _ _ hA=>(gN 1 nd)) (fun _ _ _ _ _ _ hA=>fE) (fun _ _ _ _ _ _ hA=>(pF (r8 T) hr hA (aa (pv 1) ag)))))),?_⟩;obtain⟨a,rfl,r⟩:=hB;unfold bI at q;have hlen:=gR 58 bs [];walk_at "rd";refine⟨a,bs,58,rfl,hl,.inr ⟨r,fun v1 H1 s1 b1=>?_⟩⟩;obtain⟨l,vs,rfl,hl1,hp⟩:=b1;generalize NM.cutAt 58 bs []=ps at q hp hlen;have q1:=q.from s1;walk_at "rd";refine⟨⟨_,aY.of hl1⟩,fun D hD=>?_⟩;refine jD (Walk.l (aY.of hl1)) (R:=Bt) (S:=In) hp (fun _ _ _ _ s h=>Bt.same h s) (fun _ _ _ _ s h=>h) fP (by lia) hD (Bad:=fun H'=>E (.ref c.CN) none H') (fun hn H' s'=>q1.2 hn _ s') (fun i d x H' k h1 h2 h3 h4 h5=>?_) fun es acc H' he ha hpa s3=>?_
 .walk_at "rd";exact⟨x,d,rfl,h2,fun e y H4 hf s4 b4=>h4 e y H4 hf s4 b4,fun hf H4 s4=>h5 hf H4 s4⟩
 .rw[wA hpa]at ha;exact q1.1 _ _ _ he s3 ⟨D,rfl,ha⟩
inductive Hy (vs:List V) (H:Hp) (Q:VK) (E:XK):Prop
 |mk (v:V) (bs:List Nat) (_:vs=[v]) (_:Bt H v bs) (_:bs.length<=65536) (_:(∀g,Sn12.twoColons bs=some g->Q (iv g) H)/\(Sn12.twoColons bs=none->Q .non H))
inductive I0 (H:Hp) (bs:List Nat) (a:Addr) (i:Nat) (σ:St) (H':Hp):Prop
 |mk (x:_) (_:σ=[some (.ref a),x]) (_:H'=H) (_:∀j,j<i->¬(bs[j]?=some 58/\bs[j+1]?=some 58))
theorem pJ(T:Top K mg base c):gz P w K mg base "double_colon" 1 ["word"] (Hy):=by
 have g:=T.g;refine T.rG.cl ["word","place"] ?_;rintro nd _ _ _ _ _ H _ Q E hr ⟨v,bs,rfl,hB,hl,q⟩;refine⟨_,(ae (d3 aA rfl (Ak rfl g.range (aa (aP gj (gL T (pv 0)) ak) ag)) (gN 1 nd) (ah (aR (PW.pt (jT (tR d4 (xL dG (pv 0) (pv 1)) (aQ g.Ds)) (iC (tR d4 (xL dG (pv 0) (aP dX (pv 1) ak)) (aQ g.Ds))))) (ah (ay (pv 1))) aB)))
  (ah (ay gK))),?_⟩
 obtain⟨a,rfl,r⟩:=hB;walk_at "rd";refine fi (.inl r) ?_;walk_at "rd";rw[aD];refine⟨(bs.length:Int)-1,rfl,by lia,by lia,?_⟩;refine vI (I0 H bs a) ⟨none,rfl,rfl,fun j hj=>by lia⟩ ?_ ?_
 .rintro i σ H' hi ⟨x,rfl,rfl,hq⟩;have h1:i+1<bs.length:=by lia
  have g1:bs[i]?=some bs[i]:=Ks (by lia);have g2:bs[i+1]?=some bs[i+1]:=Ks h1;walk_at "rd";refine cT (.inl r) (at_of (j:=i) (v:=iv bs[i]) (by lia) (by rw[KW,g1];rfl)) ?_;walk_at "rd";have more:¬(bs[i]=58/\bs[i+1]=58)->∀j,j<i+1->¬(bs[j]?=some 58/\bs[j+1]?=some 58):=fun h j hj=>by
   by_cases hji:j=i
   .subst hji;rw[g1,g2];simp only[Option.some.injEq];exact h
   .exact hq j (by lia)
  refine aS (fun h2=>?_) fun h2=>⟨_,rfl,rfl,more (by lia)⟩
  refine cT (.inl r) (at_of (j:=i+1) (v:=iv bs[i+1]) (by lia) (by rw[KW,g2];rfl)) ?_;walk_at "rd";refine aS (fun h3=>?_) fun h3=>⟨_,rfl,rfl,more (by lia)⟩
  have:=q.1 i (km (by rw[g1];congr 1;lia) (by rw[g2];congr 1;lia) hq);have e:(0:Int)+(i:Int)=(i:Int):=by lia
  rw[e];exact this
 .rintro σ H' ⟨x,rfl,rfl,hq⟩;walk_at "rd";exact q.2 (kq.mpr fun i hi=>hq i (by lia))
inductive DU (c:As) (vs:List V) (H:Hp) (Q:VK) (E:XK):Prop
 |mk (v:V) (bs:List Nat) (_:vs=[v]) (_:Bt H v bs) (_:bs.length<=65536) (_:Res c H Q E Fl (eI bs))
theorem rn{bs l:List Nat}(h:bI bs=some l):l.length<=bs.length+1:=by
 unfold bI at h;have:=bB _ _ _ h;have:=gR 58 bs [];lia
inductive IZ (H:Hp) (bs:List Nat) (a:Addr) (σ':St) (H':Hp):Prop
 |mk  (_:H'=H) (_:((∃g,Sn12.twoColons bs=some g/\σ'=[some (.ref a),some (iv g),none,none,none])\/(Sn12.twoColons bs=none/\σ'=[some (.ref a),some .non,none,none,none])))
inductive IY (bs:List Nat) (a:Addr) (H':Hp) (g:Nat) (σ':St) (H1:Hp):Prop
 |mk (as v:_) (_:(if 0<g then bI (List.take g bs) else some [])=some as) (_:as.length<=65537) (_:σ'=[some (.ref a),some (iv g),some v,none,none]) (_:ar H' H1) (_:Fl H1 v as)
inductive IX (bs:List Nat) (a:Addr) (g:Nat) (H1:Hp) (v1:V) (σ':St) (H2:Hp):Prop
 |mk (bs2 v2:_) (_:(if g+2<bs.length then bI (List.drop (g+2) bs) else some [])=some bs2) (_:bs2.length<=65537) (_:σ'=[some (.ref a),some (iv g),some v1,some v2,none]) (_:ar H1 H2) (_:Fl H2 v2 bs2)
theorem mx(T:Top K mg base c):gz P w K mg base "read_all_groups" 5 ["word"] (DU c):=by
 have g:=T.g;have hk:=T.hk;refine T.nN.cl ["word","gap","before","behind","missing"] ?_;rintro nd _ _ _ _ _ H _ Q E hr ⟨v,bs,rfl,hB,hl,q⟩;refine⟨_,(ae (sS 1 nd (pF (pJ T) hr aq (aa (pv 0) ag)))
  (ae (aR (ie (um (pv 1))) (ah (ay (pF (iQ T) hr aq (aa (pv 0) ag)))) aB)
  (ae (sS 2 nd (iO (tR iP (pv 1) ak) (pF (iQ T) hr aq (aa (bF fO (pv 0) dO (bD (pv 1))) ag)) (bN ag)))
  (ae (sS 3 nd (iO (tR kD (aP dX (pv 1) ak) (gL T (pv 0))) (pF (iQ T) hr aq (aa (bF fO (pv 0) (bD (aP dX (pv 1) ak)) dO) ag)) (bN ag)))
  (ae (sS 4 nd (aP gj (aP gj (aQ g.Dn) (gL T (pv 2))) (gL T (pv 3))))
  (ae (aR (tR kD (pv 4) ak) (ah (bA T.aT hk aq)) aB)
  (ah (ay (aP kE (aP kE (pv 2) (aP B3 (bN (aa ak ag)) (pv 4))) (pv 3)))))))))),?_⟩
 have hB':=hB;obtain⟨a,rfl,r⟩:=hB;unfold eI at q;refine t9 (IZ H bs a) ?_ fun N hN=>?_
 rotate_left
 .walk_at "rd";exact⟨.ref a,bs,rfl,hB',hl,fun g hg=>hN _ _ ⟨rfl,.inl ⟨g,hg,rfl⟩⟩,fun hg=>hN _ _ ⟨rfl,.inr ⟨hg,rfl⟩⟩⟩
 rintro σ' H' ⟨rfl,⟨g,hg,rfl⟩|⟨hg,rfl⟩⟩
 rotate_left
 .rw[hg]at q;dsimp only at q;walk_at "rd";exact⟨.ref a,bs,rfl,hB',hl,q⟩
 rw[hg]at q;dsimp only at q;refine BF ?_ fun N hN=>?_
 rotate_left
 .walk_at "rd";exact hN
 refine t9 (IY bs a H' g) ?_ fun N hN=>?_
 rotate_left
 .walk_at "rd";refine aS (fun h0=>?_) fun h0=>⟨az (by decide),fun p hp=>?_⟩
  .refine jE r fun v2 H2 s2 t2=>?_;rw[zN]at t2;refine⟨v2,bs.take g,rfl,t2,by rw[Kf];lia,fun as v3 H3 he s3 b3=>?_,fun he H3 s3=>?_⟩
   .have:=rn he;rw[Kf]at this;exact hN _ _ ⟨as,v3,by rw[JX (by lia),he],by lia,rfl,s2.trans s3,b3⟩
   .exact q.2 (by rw[JX (by lia),he];rfl) _ (s2.trans s3)
  .exact hN _ _ ⟨[],_,by rw[JU (by lia)],by decide,rfl,aj hp,p,rfl,af⟩
 rintro σ' H1 ⟨as,v1,hea,hla,rfl,s1,b1⟩;rw[hea]at q;dsimp only[Option.bind_some]at q;refine t9 (IX bs a g H1 v1) ?_ fun N hN=>?_
 rotate_left
 .have r1:=ar.rd s1 r;walk_at "rd";refine fi (.inl r1) ?_;walk_at "rd";rw[aD];refine aS (fun h0=>?_) fun h0=>⟨az (by decide),fun p hp=>?_⟩
  .refine jE r1 fun v2 H2 s2 t2=>?_;have e:((g:Int)+2)=((g+2:Nat):Int):=by lia
   rw[e,p6]at t2;refine⟨v2,bs.drop (g+2),rfl,t2,by rw[J4];lia,fun as v3 H3 he s3 b3=>?_,fun he H3 s3=>?_⟩
   .have:=rn he;rw[J4]at this;exact hN _ _ ⟨as,v3,by rw[JX (by lia),he],by lia,rfl,s2.trans s3,b3⟩
   .exact q.2 (by rw[JX (by lia),he];rfl) _ ((s1.trans s2).trans s3)
  .exact hN _ _ ⟨[],_,by rw[JU (by lia)],by decide,rfl,aj hp,p,rfl,af⟩
 rintro σ' H2 ⟨bs2,v2,heb,hlb,rfl,s2,b2⟩;rw[heb]at q;dsimp only[Option.bind_some]at q;obtain⟨a1,rfl,ha1⟩:=b1;obtain⟨a2,rfl,ha2⟩:=b2;have ha1':=s2 _ _ ha1;walk_at "rd";refine cD (aY.of ha1') ?_;walk_at "rd";refine cD (aY.of ha2) ?_;walk_at "rd";rw[aD,aD];refine aS (fun h0=>?_) fun h0=>⟨az (by decide),fun p hp=>?_⟩
 .rw[JX (by lia)]at q;exact q.2 rfl _ (s1.trans s2)
 rw[JU (by lia)]at q;have s3:=aj (o:=.lst [V.int 0]) hp;refine CB (k:=8-as.length-bs2.length) af (by lia) (by lia) fun p2 hp2=>?_;have s4:=s3.trans (aj (o:=.lst (List.replicate (8-as.length-bs2.length) (V.int 0))) hp2);refine mH (s4 _ _ ha1') af (by simp;lia) fun p3 hp3=>?_;have s5:=s4.trans (aj (o:=.lst (nz as++List.replicate (8-as.length-bs2.length) (V.int 0))) hp3);refine mH af (s5 _ _ ha2) (by simp;lia) fun p4 hp4=>?_;refine q.1 _ _ _ rfl ((s1.trans s2).trans (s5.trans (aj hp4))) ⟨p4,rfl,?_⟩;rw[af];have e:List.replicate (8-as.length-bs2.length) (V.int 0)=nz (List.replicate (8-as.length-bs2.length) 0):=by unfold nz;rw[List.map_replicate];rfl
 rw[e,eF,eF]
inductive zb (c:As) (vs:List V) (H:Hp) (Q:VK) (E:XK):Prop
 |mk (v:V) (bs:List Nat) (_:vs=[v]) (_:Bt H v bs) (_:bs.length<=65536) (_:Res c H Q E Bt (iM bs))
inductive IW (v:V) (gs:List Nat) (H1:Hp) (b l:Addr) (i:Nat) (σ:St) (H':Hp):Prop
 |mk (x:_) (_:σ=[some v,some (.ref b),some (.ref l),x]) (_:ar H1 H') (_:H' l=some (.lst (nz ((gs.take i).flatMap dW)))) (_:i<=gs.length)
theorem kH(T:Top K mg base c):gz P w K mg base "read_long_address" 6 ["word"] (zb c):=by
 have g:=T.g;have hk:=T.hk;refine T.lY.cl ["word","groups","octets","group"] ?_;rintro nd _ _ _ _ _ H _ Q E hr ⟨v,bs,rfl,hB,hl,q⟩;refine⟨_,(ae (sS 1 nd (pF (mx T) hr aq (aa (pv 0) ag)))
  (ae (aR (tR gM (gL T (pv 1)) (aQ g.Dn)) (ah (bA T.aT hk aq)) aB)
  (ae (sS 2 nd (bN ag))
  (ae (d3 aA rfl (cG (pv 1)) (gN 3 nd) (ah (aM (fo Ka Ko Km eu (pv 2) (aa (pF (cV T) hr aq (aa (pv 3) ag)) ag)))))
  (ah (ay (dS (fu (K:=K) rfl) (by rfl) g.tuple fw (aa (pv 2) ag)))))))),?_⟩
 unfold iM at q;walk_at "rd";refine⟨v,bs,rfl,hB,hl,fun gs v1 H1 hg s1 b1=>?_,fun hg H1 s1=>q.2 (by rw[hg];rfl) _ s1⟩;rw[hg]at q;dsimp only[Option.bind_some]at q;obtain⟨b,rfl,hb⟩:=b1;walk_at "rd";refine cD (aY.of hb) ?_;walk_at "rd";rw[aD];refine aS (fun h8=>?_) fun h8=>⟨az (by decide),fun l hl0=>?_⟩
 .rw[JX (by lia)]at q;exact q.2 rfl _ s1
 rw[JU (by lia)]at q;refine⟨⟨_,aY.of (aj hl0 _ _ hb)⟩,gW (H0:=H1) (Walk.l (aY.of hb)) (IW v gs H1 b l) ⟨none,rfl,aj hl0,af,Kq _⟩ (fun i σ H' ⟨_,_,s,_,_⟩=>s) ?_ ?_⟩
 .rintro i x σ H' hx ⟨x1,rfl,s2,h2,h3⟩;obtain⟨k,hk,rfl⟩:=qO hx;have hi:i<gs.length:=(JW.mp hk).1;have et:gs.take (i+1)=gs.take i++[k]:=by rw[List.take_succ,hk];rfl
  walk_at "rd";refine⟨oX h2,k,rfl,fun v4 H4 s4 b4=>?_⟩;obtain⟨b5,rfl,r5⟩:=b4;have hlen:((gs.take i).flatMap dW).length=(gs.take i).length*2:=jc (f:=dW) (k:=2) (fun _=>rfl) _;rw[Kf]at hlen;refine jn (s4 _ _ h2) (.inl r5) (by rw[aD,aD,hlen];simp[dW];lia) ?_;refine⟨_,rfl,a8 (s2.trans s4) hl0,?_,hi⟩;rw[af,et,List.flatMap_append,eF];simp
 .rintro σ H' ⟨x1,rfl,s2,h2,h3⟩;rw[aD,List.take_length]at h2;walk_at "rd";exact kY (aY.of h2) fun v H4 s4 b=>q.1 _ _ _ rfl ((s1.trans s2).trans s4) b
end
section
noncomputable def kS(k:NM.Kd):Str:=Str.ofString k.txt
noncomputable def AY:List (Key×V):=NM.kinds.map fun k=>(Sum.inr (kS k),iv k.num)
noncomputable def Kn(c:As)(H:Hp):Prop:=∃o,H c.kn=some (.frz o (.dK AY))
noncomputable def La(K:Lq)(c:As)(H:Hp):Prop:=∃o kvs,H c.la=some (.frz o (.dK kvs))/\∀k:NM.Kd,k ≠ .A->k ≠ .TXT->k ≠ .AAAA->∃a,d9 kvs (Sum.inr (kS k))=some (.ref a)/\gG K H a (nz [(j1 k).1,(j1 k).2.1,(j1 k).2.2])
structure Mh (K:Lq) (c:As) (H:Hp):Prop where
 st:nW c H
 kn:Kn c H
 la:La K c H
theorem Mh.same(h:Mh K c H)(s:ar H H'):Mh K c H':=by
 obtain⟨h1,⟨o,h2⟩,o3,kvs,h3,h4⟩:=h;exact⟨h1.same s,⟨o,s _ _ h2⟩,o3,kvs,s _ _ h3,fun k a b d=>let ⟨x,e,t⟩:=h4 k a b d;⟨x,e,ar.sqt s t⟩⟩
theorem jl{a b:NM.Kd}(h:kS a=kS b):a=b:=by
 revert h;cases a<;>cases b<;>first|(intro _;rfl)|(intro h;exact absurd h (by decide +kernel))
theorem Cn(k:NM.Kd):d9 AY (Sum.inr (kS k))=some (iv k.num):=by
 cases k<;>decide +kernel
theorem Es(k:NM.Kd):(kS k).cps.toList=k.sign:=by cases k<;>decide +kernel
theorem GA(k:NM.Kd):(kS k).cps.size<=1000:=by cases k<;>decide +kernel
theorem Gu{i:Nat}{k:Key}(h:AY[i]?=some (k,v)):∃d,NM.kinds[i]?=some d/\k=Sum.inr (kS d):=by
 unfold AY at h;rw[KW]at h;cases e:NM.kinds[i]? with
 |none=>rw[e]at h;cases h
 |some d=>rw[e]at h;cases h;exact⟨d,rfl,rfl⟩
inductive DR (c:As) (vs:List V) (H:Hp) (Q:VK) (E:XK):Prop
 |mk (v:V) (bs:List Nat) (_:vs=[v]) (_:Bt H v bs) (_:Kn c H) (_:Res c H Q E (fun _ v k=>v = .str (kS k)) (NM.kindAt bs))
inductive IV (H:Hp) (v:V) (bs:List Nat) (i:Nat) (σ:St) (H':Hp):Prop
 |mk (x:_) (_:σ=[some v,x]) (_:ar H H') (_:∀j d,j<i->NM.kinds[j]?=some d->¬bs=d.sign)
theorem uy(T:Top K mg base c):gz P w K mg base "read_kind" 2 ["word"] (DR c):=by
 have hk:=T.hk;refine T.w6.cl ["word","kind"] ?_;rintro nd _ _ _ _ _ H _ Q E hr ⟨v,bs,rfl,hB,⟨o,hK⟩,q⟩;refine⟨_,(ae (d3 aA rfl (zm (iD (v:=V.ref c.kn) rfl T.j5 rfl)) (gN 1 nd) (ah (aR (tR (mr (dZ hr)) (pv 0) (pF (qI T) hr aq (aa (pv 1) ag))) (ah (ay (pv 1))) aB)))
  (ah (bA T.aT hk aq))),?_⟩
 unfold NM.kindAt at q;walk_at "rd";refine⟨o,.inl ⟨AY,hK,?_⟩⟩;refine DA (IV H v bs) ⟨none,rfl,ar.refl _,fun j d hj=>by lia⟩ (fun i σ H' ⟨_,_,s,_⟩=>s _ _ hK) ?_ ?_
 .rintro i k u σ H' hk ⟨x,rfl,s1,hq⟩;obtain⟨d,hd,rfl⟩:=Gu hk;walk_at "rd";refine⟨kS d,rfl,GA d,fun v2 H2 s2 b2=>?_⟩;rw[Es]at b2;refine wJ (hB.same (s1.trans s2)) b2 ?_;walk_at "rd";refine aS (fun h=>?_) fun h=>⟨_,rfl,s1.trans s2,fun j e hj he=>?_⟩
  .refine q.1 d _ _ ?_ (s1.trans s2) rfl;exact uR (i:=i) (fun j e hj he=>by simp only[decide_eq_false_iff_not];exact hq j e hj he) hd (by simp only[Lo];exact h)
  .by_cases hji:j=i
   .subst hji;rw[hd]at he;cases he;exact h
   .exact hq j e (by lia) he
 .rintro σ H' ⟨x,rfl,s1,hq⟩;walk_at "rd";refine q.2 ?_ _ s1;rw[List.find?_eq_none];intro d hd;obtain⟨j,hj⟩:=List.getElem?_of_mem hd;have hjl:j<AY.length:=by unfold AY;rw[Kk];exact(JW.mp hj).1
  simp only[Lo];exact hq j d hjl hj
inductive y8 (c:As) (vs:List V) (H:Hp) (Q:VK) (E:XK):Prop
 |mk (v:V) (ws:List (List Nat)) (_:vs=[v]) (_:Ls Bt H v ws) (_:Res c H Q E Bt (m4 ws))
theorem m9(T:Top K mg base c):gz P w K mg base "only_word" 1 ["words"] (y8 c):=by
 have hk:=T.hk;refine T.w8.cl ["words"] ?_;rintro nd _ _ _ _ _ H _ Q E hr ⟨v,ws,rfl,hB,q⟩;refine⟨_,(ae (aR (tR gM (gL T (pv 0)) ak) (ah (bA T.aT hk aq)) aB)
  (ah (ay (xL cH (pv 0) ak)))),?_⟩
 obtain⟨l,vs,rfl,hl,hp⟩:=hB;have hpl:=Paired.length hp;walk_at "rd";refine cD (aY.of hl) ?_;walk_at "rd";refine aS (fun h=>?_) fun h=>?_
 .refine q.2 ?_ _ (ar.refl _)
  match ws with
  |[]=>rfl
  |[x]=>rw[JS,J7]at hpl;lia
  |x::y::r=>rfl
 .match ws,vs with
  |[x],[v0] =>
   cases hp with
   |cons r t=>exact dP (aY.of hl) (v:=v0) (bG (j:=0) rfl) (q.1 _ _ _ rfl (ar.refl _) r)
  |[],_=>rw[J7]at hpl;lia
  |_::_::_,_=>rw[JS,JS]at hpl;lia
  |[_],[]=>simp at hpl
  |[_],_::_::_=>simp at hpl
noncomputable def Ns(H:Hp)(v:V)(ns:List (List (List Nat))):Prop:=∃vs,Tp H v vs/\Paired (Nm H) vs ns
theorem Ns.lk{n:List (List (List Nat))}(h:Ns H v n)(s:Lk H H'):Ns H' v n:=by
 obtain⟨vs,t,p⟩:=h;exact⟨vs,t.lk s,Paired.imp (fun _ _ r=>Nm.lk r s) p⟩
inductive Sd (H:Hp) (v:V) (s:rM):Prop
 |mk (a b d:V) (_:Tp H v [a,b,d]) (_:Bt H a s.front) (_:Ns H b s.names) (_:Bt H d s.back)
theorem Sd.lk{s:rM}(h:Sd H v s)(k:Lk H H'):Sd H' v s:=by
 obtain⟨a,b,d,t,x,y,z⟩:=h;exact⟨a,b,d,t.lk k,x.lk k,y.lk k,z.lk k⟩
noncomputable def Iy(ws:List (List Nat)):Prop:=∀w∈ws,w≠[]/\w.length<=600
inductive Bl (c:As) (vs:List V) (H:Hp) (Q:VK) (E:XK):Prop
 |mk (v:V) (ws:List (List Nat)) (_:vs=[v]) (_:Ls Bt H v ws) (_:ws.length<=1000) (_:Iy ws) (_:Res c H Q E Bt (gH ws))
theorem text_len{w t:List Nat}(h:NM.readText w=some t):t.length<=w.length:=by
 unfold NM.readText at h;by_cases h1:w.head?≠some 34\/257<w.length
 .rw[JX h1]at h;cases h
 .rw[JU h1]at h;cases h;rw[List.length_dropLast,J4];lia
theorem r6(T:Top K mg base c):gz P w K mg base "read_texts" 2 ["words"] (Bl c):=by
 have g:=T.g;have hk:=T.hk;refine T.uZ.cl ["words","octets","word","text"] ?_;rintro nd _ _ _ _ _ H _ Q E hr ⟨v,ws,rfl,hB,hwl,hws,q⟩;refine⟨_,(ae (aR (tR d4 (gL T (pv 0)) ak) (ah (bA T.aT hk aq)) aB)
  (ae (sS 1 nd (bN ag))
  (ae (d3 aA rfl (cG (pv 0)) (gN 2 nd) (ae (sS 3 nd (pF (uw T) hr aq (aa (pv 2) ag)))
  (ae (aM (fo Ka KJ KI fz (pv 1) (aa (gL T (pv 3)) ag)))
  (ah (aM (fo Ka Ko Km eu (pv 1) (aa (pv 3) ag)))))))
  (ah (ay (dS (fu (K:=K) rfl) (by rfl) g.tuple fw (aa (pv 1) ag))))))),?_⟩
 obtain⟨l,vs,rfl,hl,hp⟩:=hB;have hpl:=Paired.length hp;unfold gH at q;walk_at "rd";refine cD (aY.of hl) ?_;walk_at "rd";refine aS (fun h=>?_) fun h=>⟨az (by decide),fun b hb=>?_⟩
 .rw[JX (List.eq_nil_of_length_eq_zero (by lia))]at q;exact q.2 rfl _ (ar.refl _)
 rw[JU (by intro z;rw[z,J7]at hpl;lia)]at q;have s1:=aj (o:=.lst []) hb;refine⟨⟨_,aY.of (s1 _ _ hl)⟩,tV (H0:=H) (Walk.l (aY.of hl)) (R:=Bt) hp (fun _ _ _ _ s h=>Bt.same h s) NM.readText
  (fun es σ H'=>∃x y,σ=[some (.ref l),some (.ref b),x,y]/\ar H H'/\H' b=some (.lst (nz (es.flatMap fun t=>t.length::t)))/\(es.flatMap fun t=>t.length::t).length<=es.length*601) ⟨none,none,rfl,s1,af,by simp⟩ (fun es σ H' ⟨_,_,_,s,_⟩=>s)
  (Bad:=fun H'=>E (.ref c.CN) none H') (fun hn H' s'=>q.2 (by rw[hn];rfl) _ s') (fun i d x es σ H' N h1 h2 h3 h4 h5 h6=>?_) fun es σ H' he h4=>?_⟩
 .obtain⟨x1,y1,rfl,s2,hb2,hlen⟩:=h4;have hwd:=hws d (Kr h1);have hi:i<ws.length:=(JW.mp h1).1;walk_at "rd";refine⟨x,d,rfl,h3,hwd.1,fun t v3 H3 ht s3 b3=>?_,fun hn H3 s3=>h6 hn _ (s2.trans s3)⟩;have htl:=text_len ht;obtain⟨a3,rfl,r3⟩:=b3;have hb3:=s3 _ _ hb2;walk_at "rd";refine⟨oX hb3,fi (.inl r3) ?_⟩;refine goApp hb3 (by rw[aD];lia) ?_;refine⟨oX af,jn af (.inl ((jZ hb3).rdT r3)) (by rw[JT,aD,aD,List.length_singleton];lia) ?_⟩;rw[fN];refine h5 t _ _ ht ⟨_,_,rfl,a8 (s2.trans s3) hb,?_,?_⟩
  .rw[af,aD,List.flatMap_append];unfold nz;simp
  .rw[List.flatMap_append,JT,JT,K5,List.flatMap_nil,Kw,JS,List.length_singleton];lia
 .obtain⟨x1,y1,rfl,s2,hb2,hlen⟩:=h4;walk_at "rd";exact kY (aY.of hb2) fun v H4 s4 b=>q.1 _ _ _ (by rw[he];rfl) (s2.trans s4) b
inductive zc (K:Lq) (c:As) (vs:List V) (H:Hp) (Q:VK) (E:XK):Prop
 |mk (a:Addr) (v u:V) (y:Nat×Nat×Nat) (ws:List (List Nat)) (o:List (List Nat)) (_:vs=[.ref a,v,u]) (_:gG K H a (nz [y.1,y.2.1,y.2.2])) (_:Ls Bt H v ws) (_:ws.length<=1000) (_:Iy ws) (_:Nm H u o) (_:o.length<=1000) (_:nW c H) (_:Res c H Q E Sd (a9 o y ws))
theorem ou(T:Top K mg base c):gz P w K mg base "read_laid_out" 6 ["layout","words","origin"] (zc K c):=by
 have g:=T.g;have hk:=T.hk;refine T.pM.cl ["layout","words","origin","names_end","front","word","names","back"] ?_;rintro nd _ _ _ _ _ H _ Q E hr ⟨a,v,u,y,ws,o,rfl,hY,hB,hwl,hws,hO,hol,hs,q⟩;refine⟨_,(ae (aR (tR gM (gL T (pv 1)) (jw (EI (K:=K) rfl rfl) (by rfl) g.sum C9 (aa (pv 0) ag))) (ah (bA T.aT hk aq)) aB)
  (ae (sS 3 nd (aP dX (xL dG (pv 0) ak) (xL dG (pv 0) ak)))
  (ae (sS 4 nd (bN ag))
  (ae (d3 aA rfl (cG (bF f9 (pv 1) dO (bD (xL dG (pv 0) ak)))) (gN 5 nd) (ah (aM (fo Ka Ko Km eu (pv 4) (aa (pF (cV T) hr aq (aa (pF (gY T) hr aq (aa (pv 5) (aa (aQ g.pS) ag))) ag)) ag)))))
  (ae (om (i:=6) (own:=[("word",5)]) aq rfl rfl rfl nd rfl rfl (tW rfl rfl rfl (by kernel_rfl)) (cG (bF f9 (pv 1) (bD (xL dG (pv 0) ak)) (bD (pv 3)))) (cP (by kernel_rfl)) (fun _ _ _ _ _ _ hA=>(gN 5 nd)) (fun _ _ _ _ _ _ hA=>fE) (fun _ _ _ _ _ _ hA=>(pF (jW T) hr hA (aa (pv 5) (aa (pv 2) ag)))))
  (ae (sS 7 nd (bN ag))
  (ae (d3 aA rfl (cG (bF f9 (pv 1) (bD (pv 3)) dO)) (gN 5 nd) (ah (aM (fo Ka Ko Km eu (pv 7) (aa (pF (kK T) hr aq (aa (pF (gY T) hr aq (aa (pv 5) (aa (aQ g.oV) ag))) ag)) ag)))))
  (ah (ay (bM (aa (dS (fu (K:=K) rfl) (by rfl) g.tuple fw (aa (pv 4) ag)) (aa (dS (fu (K:=K) rfl) (by rfl) g.tuple fw (aa (pv 6) ag)) (aa (dS (fu (K:=K) rfl) (by rfl) g.tuple fw (aa (pv 7) ag)) ag))))))))))))),?_⟩
 obtain⟨l,vs,rfl,hl,hp⟩:=hB;obtain⟨y1,y2,y3⟩:=y;have hpl:=Paired.length hp;unfold a9 at q;walk_at "rd";refine cD (aY.of hl) ?_;refine GG (ns:=[(y1:Int),(y2:Int),(y3:Int)]) hY ?_;walk_at "rd";have i0:xn (nz [y1,y2,y3]) 0=some (iv y1):=pj (i:=0) rfl;have i1:xn (nz [y1,y2,y3]) 1=some (iv y2):=pj (i:=1) rfl;refine aS (fun h=>?_) fun h=>?_
 .rw[JX (by simp at h ⊢;lia)]at q;exact q.2 rfl _ (ar.refl _)
 have hsum:ws.length=y1+y2+y3:=by simp at h;lia
 rw[JU (by simp;lia)]at q;refine cT hY i0 (cT hY i1 ?_);walk_at "rd";refine⟨az (by decide),fun b hb=>?_⟩;have s1:=aj (o:=.lst []) hb;refine cT (ar.sqt s1 hY) i0 ?_;walk_at "rd";refine rp (aY.of (s1 _ _ hl)) fun l2 hl20=>?_;rw[xh];have s2:=aj (o:=.lst (vs.take y1)) hl20;have hl2:upd (upd H b (.lst [])) l2 (.lst (vs.take y1)) l2=some (.lst (vs.take y1)):=af;have hbe:=s2 b (.lst []) af;have hb2:l2≠b:=Ne.symm (aH af hl20);generalize upd (upd H b (.lst [])) l2 (.lst (vs.take y1))=H2 at s2 hl2 hbe;have s12:=s1.trans s2;walk_at "rd";have hp2:=Paired.takeP y1 (Paired.imp (fun _ _ r=>Bt.same r (ik s12 hb)) hp);refine⟨⟨_,aY.of hl2⟩,tV (H0:=wo H2 b) (Walk.l (aY.of (by rw[aZ hb2];exact hl2))) (R:=Bt) hp2 (fun _ _ _ _ s h=>Bt.same h s) (fun w=>NM.whole w 65535)
  (fun es σ H'=>∃x,σ=[some (.ref a),some (.ref l),some u,some (V.int ((y1:Int)+y2)),some (.ref b),x,none,none]/\ar (wo H2 b) H'/\H' b=some (.lst (nz (es.flatMap dW)))) ⟨none,rfl,fD,hbe⟩ (fun es σ H' ⟨_,_,s,_⟩=>s)
  (Bad:=fun H'=>E (.ref c.CN) none H') (fun hn H' s'=>q.2 (by rw[hn];rfl) _ ((ik s12 hb).trans s')) (fun i d x es σ H' N h1 h2 h3 h4 h5 h6=>?_) fun es σ H' he h4=>?_⟩
 .obtain⟨x1,rfl,s3,hb3⟩:=h4;have hi:i<(ws.take y1).length:=(JW.mp h1).1;rw[Kf]at hi;walk_at "rd";refine⟨oX hb3,x,d,65535,rfl,h3,fun n v4 H4 hn s4 b4=>?_,fun hn H4 s4=>h6 hn _ (s3.trans s4)⟩;subst b4;refine⟨n,rfl,fun v5 H5 s5 b5=>?_⟩;obtain⟨a5,rfl,r5⟩:=b5;have hlen:(es.flatMap dW).length=es.length*2:=jc (f:=dW) (k:=2) (fun _=>rfl) _;refine jn ((s4.trans s5) _ _ hb3) (.inl r5) (by rw[aD,aD,hlen];simp[dW];lia) ?_;refine h5 n _ _ hn ⟨_,rfl,xF ((s3.trans s4).trans s5),?_⟩;rw[af,List.flatMap_append,eF];simp
 obtain⟨x1,rfl,s3,hb3⟩:=h4;rw[he]at q;dsimp only[Option.bind_some]at q;have s03:=(ik s12 hb).trans s3;have hl3:=s03 _ _ hl;walk_at "rd";refine cT (ar.sqt s03 hY) i0 ?_;walk_at "rd";refine tq (aY.of hl3) fun v4 H4 s4 hv4=>?_;obtain⟨l4,rfl,hl4⟩:=hv4;have e12:((y1:Int)+(y2:Int))=((y1+y2:Nat):Int):=by lia
 rw[e12,zO,Nat.add_sub_cancel_left]at hl4;walk_at "rd";have s04:=s03.trans s4;have hp4:=Paired.takeP y2 (Paired.dropP y1 (Paired.imp (fun _ _ r=>Bt.same r s04) hp));refine⟨⟨_,aY.of hl4⟩,fun D hD=>?_⟩;refine jD (Walk.l (aY.of hl4)) (R:=Bt) (S:=Nm) hp4 (fun _ _ _ _ s h=>Bt.same h s) (fun _ _ _ _ s h=>Nm.lk h s) (NM.readName o) (by rw[Kf,J4];lia) hD (Bad:=fun H'=>E (.ref c.CN) none H') (fun hn H' s'=>q.2 (by rw[hn];rfl) _ (s04.trans s')) (fun i d x H' k h1 h2 h3 h4 h5=>?_) fun ns acc H5 hns hacc hpa s5=>?_
 .walk_at "rd";have hwd:=hws d (List.mem_of_mem_drop (List.mem_of_mem_take (Kr h1)));exact⟨x,u,d,o,rfl,h2,hwd.1,by have:=hwd.2;lia,hO.same (s04.trans h3),hol,hs.same (s04.trans h3),fun e y H4 hf s4 b4=>h4 e y H4 hf s4 b4,fun hf H4 s4=>h5 hf H4 s4⟩
 rw[hns]at q;dsimp only[Option.bind_some]at q;have s05:=s04.trans s5;walk_at "rd";refine⟨az (by decide),fun b6 hb6=>?_⟩;have s6:=aj (o:=.lst []) hb6;refine rp (aY.of (s6 _ _ (s05 _ _ hl))) fun l7 hl70=>?_;rw[e12,fq];have s7:=aj (o:=.lst (vs.drop (y1+y2))) hl70;have hl7:upd (upd H5 b6 (.lst [])) l7 (.lst (vs.drop (y1+y2))) l7=some (.lst (vs.drop (y1+y2))):=af;have hb6e:=s7 b6 (.lst []) af;have hb67:l7≠b6:=Ne.symm (aH af hl70);generalize upd (upd H5 b6 (.lst [])) l7 (.lst (vs.drop (y1+y2)))=H7 at s7 hl7 hb6e;have s57:=s6.trans s7;have s07:=s05.trans s57;have s07w:=s05.trans (ik s57 hb6);walk_at "rd";have hp7:=Paired.dropP (y1+y2) (Paired.imp (fun _ _ r=>Bt.same r s07w) hp);refine⟨⟨_,aY.of hl7⟩,tV (H0:=wo H7 b6) (Walk.l (aY.of (by rw[aZ hb67];exact hl7))) (R:=Bt) hp7 (fun _ _ _ _ s h=>Bt.same h s) (fun w=>NM.whole w 4294967295)
  (fun es σ H'=>∃x,σ=[some (.ref a),some (.ref l),some u,some (V.int ((y1:Int)+y2)),some (.ref b),x,some (.ref D),some (.ref b6)]/\ar (wo H7 b6) H'/\H' b6=some (.lst (nz (es.flatMap gF)))) ⟨x1,by rw[e12],fD,hb6e⟩ (fun es σ H' ⟨_,_,s,_⟩=>s)
  (Bad:=fun H'=>E (.ref c.CN) none H') (fun hn H' s'=>q.2 (by rw[hn];rfl) _ (s07w.trans s')) (fun i d x es σ H' N h1 h2 h3 h4 h5 h6=>?_) fun bs σ H8 hbs h4=>?_⟩
 .obtain⟨x2,rfl,s8,hb8⟩:=h4;have hi:i<(ws.drop (y1+y2)).length:=(JW.mp h1).1;rw[J4]at hi;walk_at "rd";refine⟨oX hb8,x,d,4294967295,rfl,h3,fun n v4 H4 hn s4 b4=>?_,fun hn H4 s4=>h6 hn _ (s8.trans s4)⟩;subst b4;refine⟨n,rfl,fun v5 H5 s5 b5=>?_⟩;obtain⟨a5,rfl,r5⟩:=b5;have hlen:(es.flatMap gF).length=es.length*4:=jc (f:=gF) (k:=4) (fun _=>rfl) _;refine jn ((s4.trans s5) _ _ hb8) (.inl r5) (by rw[aD,aD,hlen];simp[gF,dW];lia) ?_;refine h5 n _ _ hn ⟨_,rfl,xF ((s8.trans s4).trans s5),?_⟩;rw[af,List.flatMap_append,eF];simp
 obtain⟨x2,rfl,s8,hb8⟩:=h4;rw[hbs]at q;dsimp only[Option.map_some]at q;have s58:=(ik s57 hb6).trans s8;have hb8':=s58 _ _ (s5 _ _ (s4 _ _ hb3));have hD8:=s58 _ _ hacc;walk_at "rd";refine kY (aY.of hb8') fun v9 H9 s9 b9=>?_;refine zC (aY.of (s9 _ _ hD8)) fun t10 ht10=>?_;have s10:=aj (o:=.tup acc) ht10;refine kY (aY.of (s10 _ _ (s9 _ _ hb8))) fun v11 H11 s11 b11=>?_;refine⟨az (by decide),fun t12 ht12=>?_⟩;have s12':=aj (o:=.tup [v9,.ref t10,v11]) ht12;have s9e:=(s9.trans s10).trans (s11.trans s12');refine q.1 _ _ _ rfl ((s05.trans s58).trans s9e) ⟨v9,.ref t10,v11,Tp.new,Bt.same b9 (s10.trans (s11.trans s12')),⟨acc,Tp.same Tp.new (s11.trans s12'),Paired.imp (fun _ _ r=>Nm.same r (s58.trans s9e)) hpa⟩,Bt.same b11 s12'⟩
end
section
inductive DK (K:Lq) (c:As) (vs:List V) (H:Hp) (Q:VK) (E:XK):Prop
 |mk (k:NM.Kd) (v u:V) (ws:List (List Nat)) (o:List (List Nat)) (_:vs=[.str (kS k),v,u]) (_:Ls Bt H v ws) (_:ws.length<=1000) (_:Iy ws) (_:Nm H u o) (_:o.length<=1000) (_:Mh K c H) (_:Res c H Q E Sd (fV o k ws))
theorem Ns.nil:Ns (upd H p (.tup [])) (.ref p) []:=⟨[],Tp.new,.nil⟩
theorem Fo{E:XK}{v1:V}{b:List Nat}(q:Res c H Q E Sd (some ⟨b,[],[]⟩))(s1:ar H H1)(b1:Bt H1 v1 b):
  0<=sizeLine/\∀p,H1 p=none->0<=sizeLine/\∀p2,upd H1 p (.tup []) p2=none->3<=sizeLine/\∀p3,upd (upd H1 p (.tup [])) p2 (.tup []) p3=none->Q (.ref p3) (upd (upd (upd H1 p (.tup [])) p2 (.tup [])) p3 (.tup [v1,.ref p,.ref p2])):=by
 refine⟨az (by decide),fun p hp=>⟨az (by decide),fun p2 hp2=>⟨az (by decide),fun p3 hp3=>?_⟩⟩⟩;have t1:=aj (o:=.tup []) hp;have t2:=aj (o:=.tup []) hp2;have t3:=aj (o:=.tup [v1,.ref p,.ref p2]) hp3;have n1:Ns (upd H1 p (.tup [])) (.ref p) []:=Ns.nil;have n2:Bt (upd (upd H1 p (.tup [])) p2 (.tup [])) (.ref p2) []:=Bt.new (bs:=[]);exact q.1 _ _ _ rfl (((s1.trans t1).trans t2).trans t3) ⟨v1,.ref p,.ref p2,Tp.new,Bt.same b1 ((t1.trans t2).trans t3),n1.lk (iy (t2.trans t3)),Bt.same n2 t3⟩
theorem ux(T:Top K mg base c):gz P w K mg base "read_said" 7 ["kind","words","origin"] (DK K c):=by
 have hk:=T.hk;refine T.wZ.cl ["kind","words","origin"] ?_;rintro nd _ _ _ _ _ H _ Q E hr ⟨k,v,u,ws,o,rfl,hB,hwl,hws,hO,hol,hM,q⟩;refine⟨_,(ae (aR (tR d4 (pv 0) fB) (ah (ay (bM (aa (pF (j9 T) hr aq (aa (pF (m9 T) hr aq (aa (pv 1) ag)) ag)) (aa (bM ag) (aa (bM ag) ag)))))) aB)
  (ae (aR (tR d4 (pv 0) fB) (ah (ay (bM (aa (pF (kH T) hr aq (aa (pF (m9 T) hr aq (aa (pv 1) ag)) ag)) (aa (bM ag) (aa (bM ag) ag)))))) aB)
  (ae (aR (tR d4 (pv 0) fB) (ah (ay (bM (aa (pF (r6 T) hr aq (aa (pv 1) ag)) (aa (bM ag) (aa (bM ag) ag)))))) aB)
  (ah (ay (pF (ou T) hr aq (aa (pX (dZ hr) (iD (v:=V.ref c.la) rfl T.EZ rfl) (pv 0) (fun _ _=>rfl)) (aa (pv 1) (aa (pv 2) ag))))))))),?_⟩
 have hB':=hB;walk_at "rd";have laid:(k ≠ .A/\k ≠ .TXT/\k ≠ .AAAA)->Jq H (V.str (kS k)) c.la fun x H1=>zc K c [x,v,u] H1 Q E:=fun hk=>by
  obtain⟨h1,⟨o1,h2⟩,o3,kvs,h3,h4⟩:=hM;obtain⟨a,e,t⟩:=h4 k hk.1 hk.2.1 hk.2.2;refine⟨.ref a,.inl ⟨kvs,.inr (kS k),.inr ⟨_,h3⟩,rfl,e.symm⟩,?_⟩;refine⟨a,v,u,j1 k,ws,o,rfl,t,hB',hwl,hws,hO,hol,h1,?_⟩;have e2:fV o k ws=a9 o (j1 k) ws:=by
   cases k<;>first|rfl|exact absurd rfl hk.1|exact absurd rfl hk.2.1|exact absurd rfl hk.2.2
  rw[<-e2];exact q
 have only:∀(f:List Nat->Option (List Nat)) (spf:Sp),(∀(v2:V) (b:List Nat) (H2:Hp) (Q2:VK),b.length<=65536->Bt H2 v2 b->Res c H2 Q2 E Bt (f b)->spf [v2] H2 Q2 E)->Res c H Q E Sd ((m4 ws).bind fun w=>(f w).map fun b=>⟨b,[],[]⟩) ->
   y8 c [v] H (fun x H1=>spf [x] H1 (fun x H1=>0<=sizeLine/\∀p,H1 p=none->0<=sizeLine/\∀p2,upd H1 p (.tup []) p2=none->3<=sizeLine/\∀p3,upd (upd H1 p (.tup [])) p2 (.tup []) p3=none->Q (.ref p3) (upd (upd (upd H1 p (.tup [])) p2 (.tup [])) p3 (.tup [x,.ref p,.ref p2]))) E) E:=fun f spf hf q=>by
  refine⟨v,ws,rfl,hB',fun w v2 H2 hw s2 b2=>hf v2 w H2 _ ?_ b2 ⟨fun b v3 H3 hb s3 b3=>?_,fun hn H3 s3=>?_⟩,fun hn H2 s2=>q.2 (by rw[hn];rfl) _ s2⟩
  .have:w∈ws:=by
    match ws,hw with
    |[x],hw=>cases hw;exact J8 ..
   have:=(hws w this).2;lia
  .rw[hw]at q;dsimp only[Option.bind_some]at q;rw[hb]at q;exact Fo q (s2.trans s3) b3
  .exact q.2 (by rw[hw];dsimp only[Option.bind_some];rw[hn];rfl) _ (s2.trans s3)
 refine aS (fun h=>?_) fun h1=>aS (fun h=>?_) fun h2=>aS (fun h=>?_) fun h3=>laid ⟨fun z=>h1 (by rw[z];rfl),fun z=>h3 (by rw[z];rfl),fun z=>h2 (by rw[z];rfl)⟩
 .obtain rfl:k = .A:=jl h;exact only gk (vN c) (fun v2 b H2 Q2 hl hb r=>⟨v2,b,rfl,hb,hl,r⟩) q
 .obtain rfl:k = .AAAA:=jl h;exact only iM (zb c) (fun v2 b H2 Q2 hl hb r=>⟨v2,b,rfl,hb,hl,r⟩) q
 .obtain rfl:k = .TXT:=jl h;have q:Res c H Q E Sd ((gH ws).map fun b=>⟨b,[],[]⟩):=q;refine⟨v,ws,rfl,hB',hwl,hws,fun b v3 H3 hb s3 b3=>?_,fun hn H3 s3=>q.2 (by rw[hn];rfl) _ s3⟩;rw[hb]at q;exact Fo q s3 b3
structure Jo (H:Hp) (fs:List (Str×V)) (p:NM.PR):Prop where
 name:∃v,fs.lookup ("name":Str)=some v/\Nm H v p.name
 kind:fs.lookup ("kind":Str)=some (.str (kS p.kind))
 number:fs.lookup ("number":Str)=some (iv p.kind.num)
 time:fs.lookup ("time":Str)=some (iv p.time)
 front:∃v,fs.lookup ("front":Str)=some v/\Bt H v p.said.front
 names:∃v,fs.lookup ("names":Str)=some v/\Ns H v p.said.names
 back:∃v,fs.lookup ("back":Str)=some v/\Bt H v p.said.back
inductive Rec (c:As) (H:Hp) (v:V) (p:NM.PR):Prop
 |mk (a dx:Addr) (fs:List (Str×V)) (_:v = .ref a) (_:H a=some (.ins c.CR dx fs)) (_:Jo H fs p)
theorem Rec.lk{p:NM.PR}(h:Rec c H v p)(s:Lk H H'):Rec c H' v p:=by
 obtain⟨a,dx,fs,rfl,h,f⟩:=h;obtain⟨⟨v1,e1,n1⟩,k,nu,t,⟨v2,e2,n2⟩,⟨v3,e3,n3⟩,⟨v4,e4,n4⟩⟩:=f;exact⟨a,dx,fs,rfl,s _ _ h (by simp),⟨v1,e1,n1.lk s⟩,k,nu,t,⟨v2,e2,n2.lk s⟩,⟨v3,e3,n3.lk s⟩,⟨v4,e4,n4.lk s⟩⟩
theorem Rec.same{p:NM.PR}(h:Rec c H v p)(s:ar H H'):Rec c H' v p:=h.lk (iy s)
noncomputable def Tk(H H':Hp):Prop:=(∀b xs,H b=some (.tup xs)->H' b=some (.tup xs))/\∀b o xs,H b=some (.frz o (.tup xs))->H' b=some (.frz o (.tup xs))
theorem Tk.tp(h:Tp H v xs)(s:Tk H H'):Tp H' v xs:=by
 obtain⟨a,rfl,h|⟨o,h⟩⟩:=h
 .exact⟨a,rfl,.inl (s.1 _ _ h)⟩
 .exact⟨a,rfl,.inr ⟨o,s.2 _ _ _ h⟩⟩
theorem Tk.bt{bs:List Nat}(h:Bt H v bs)(s:Tk H H'):Bt H' v bs:=Tk.tp h s
theorem Tk.nm(h:Nm H v n)(s:Tk H H'):Nm H' v n:=by
 obtain⟨vs,t,p⟩:=h;exact⟨vs,s.tp t,Paired.imp (fun _ _ r=>s.bt r) p⟩
theorem Tk.ns{n:List (List (List Nat))}(h:Ns H v n)(s:Tk H H'):Ns H' v n:=by
 obtain⟨vs,t,p⟩:=h;exact⟨vs,s.tp t,Paired.imp (fun _ _ r=>s.nm r) p⟩
theorem Tk.upd{o u:HO}(h:H a=some u)(h1:∀xs,u ≠ .tup xs)(h2:∀o xs,u ≠ .frz o (.tup xs)):Tk H (upd H a o) :=
 ⟨fun b xs e=>by rw[ai (bH e h (h1 xs).symm)];exact e,fun b o xs e=>by rw[ai (bH e h (h2 o xs).symm)];exact e⟩
inductive DM (c:As) (vs:List V) (H:Hp) (Q:VK) (E:XK):Prop
 |mk (p dx:Addr) (v1 v2:V) (r:NM.PR) (_:vs=[.ref p,v1,.str (kS r.kind),iv r.time,v2]) (_:H p=some (.ins c.CR dx [])) (_:Nm H v1 r.name) (_:Sd H v2 r.said) (_:Kn c H) (_:∀H',Rec c H' (.ref p) r->(∀b o,H b=some o->b≠p->H' b=some o)->Q .non H')
theorem mC(T:Top K mg base c):E3 P w K mg base c.CR 1 ["self","name","kind","time","said"] (DM c):=by
 refine T.Ct.cl ["self","name","kind","time","said"] ?_;rintro nd _ _ _ _ _ H _ Q E hr ⟨p,dx,v1,v2,r,rfl,hp,hN,hS,⟨o,hK⟩,q⟩;refine⟨_,(ae (cK (pv 0) (pv 1) rfl)
  (ae (cK (pv 0) (pv 2) rfl)
  (ae (cK (pv 0) (pX (dZ hr) (iD (v:=V.ref c.kn) rfl T.j5 rfl) (pv 2) (fun _ _=>rfl)) rfl)
  (ae (cK (pv 0) (pv 3) rfl)
  (ae (cK (pv 0) (xL dG (pv 4) ak) rfl)
  (ae (cK (pv 0) (xL dG (pv 4) ak) rfl)
  (ah (cK (pv 0) (xL dG (pv 4) ak) rfl)))))))),?_⟩
 obtain⟨a,b,d,⟨t,rfl,rt⟩,hf,hn,hb⟩:=hS;walk_at "rd";refine fb hp T.aN T.f6 (by show 0<1000;decide) ?_;walk_at "rd";refine fb af T.aN T.cW (by show 1<1000;decide) ?_;rw[fN];have ne:∀{x u},H x=some u->(∀C dx fs,u ≠ .ins C dx fs)->x≠p:=fun h1 h2 z=>by
  subst z;rw[hp]at h1;cases h1;exact h2 _ _ _ rfl
 have keep:∀{fs} {x u},H x=some u->(∀C dx fs,u ≠ .ins C dx fs)->upd H p (.ins c.CR dx fs) x=some u:=fun h1 h2=>by rw[ai (ne h1 h2)];exact h1
 walk_at "rd";refine⟨iv r.kind.num,.inl ⟨AY,.inr (kS r.kind),.inr ⟨o,keep hK (by simp)⟩,rfl,(Cn _).symm⟩,?_⟩;refine fb af T.aN T.ig (by show 2<1000;decide) ?_;rw[fN];walk_at "rd";refine fb af T.aN T.fA (by show 3<1000;decide) ?_;rw[fN];have rT:∀fs,Rd (upd H p (.ins c.CR dx fs)) t (.tup [a,b,d]):=fun fs=>by
  rcases rt with rt|⟨o2,rt⟩
  .exact .inl (keep rt (by simp))
  .exact .inr ⟨o2,keep rt (by simp)⟩
 walk_at "rd";refine cT (.inl (rT _)) (v:=a) (bG (j:=0) rfl) ?_;walk_at "rd";refine fb af T.aN T.iW (by show 4<1000;decide) ?_;rw[fN];walk_at "rd";refine cT (.inl (rT _)) (v:=b) (bG (j:=1) rfl) ?_;walk_at "rd";refine fb af T.aN T.fL (by show 5<1000;decide) ?_;rw[fN];walk_at "rd";refine cT (.inl (rT _)) (v:=d) (bG (j:=2) rfl) ?_;walk_at "rd";refine fb af T.aN T.js (by show 6<1000;decide) ?_;rw[fN];refine q _ ⟨p,dx,_,rfl,af,?_⟩ fun x u h1 h2=>by rw[ai h2];exact h1
 have tk:∀fs,Tk H (upd H p (.ins c.CR dx fs)):=fun fs=>Tk.upd hp (by simp) (by simp);have l:∀(g f:Str) (v:V) (fs:List (Str×V)),¬g=f->(fm f v fs).lookup g=fs.lookup g:=fun g f v fs h=>by rw[aC,JU h]
 have l0:∀(f:Str) (v:V) (fs:List (Str×V)),(fm f v fs).lookup f=some v:=fun f v fs=>by rw[aC,JX rfl]
 refine⟨⟨v1,?_,(tk _).nm hN⟩,?_,?_,?_,⟨a,?_,(tk _).bt hf⟩,⟨b,?_,(tk _).ns hn⟩,⟨d,?_,(tk _).bt hb⟩⟩
 .rw[l _ _ _ _ (by decide +kernel),l _ _ _ _ (by decide +kernel),l _ _ _ _ (by decide +kernel),l _ _ _ _ (by decide +kernel),l _ _ _ _ (by decide +kernel),l _ _ _ _ (by decide +kernel),l0]
 .rw[l _ _ _ _ (by decide +kernel),l _ _ _ _ (by decide +kernel),l _ _ _ _ (by decide +kernel),l _ _ _ _ (by decide +kernel),l _ _ _ _ (by decide +kernel),l0]
 .rw[l _ _ _ _ (by decide +kernel),l _ _ _ _ (by decide +kernel),l _ _ _ _ (by decide +kernel),l _ _ _ _ (by decide +kernel),l0]
 .rw[l _ _ _ _ (by decide +kernel),l _ _ _ _ (by decide +kernel),l _ _ _ _ (by decide +kernel),l0]
 .rw[l _ _ _ _ (by decide +kernel),l _ _ _ _ (by decide +kernel),l0]
 .rw[l _ _ _ _ (by decide +kernel),l0]
 .rw[l0]
inductive DL (K:Lq) (c:As) (vs:List V) (H:Hp) (Q:VK) (E:XK):Prop
 |mk (v u:V) (ws:List (List Nat)) (o:List (List Nat)) (_:vs=[v,u]) (_:Ls Bt H v ws) (_:ws.length<=1000) (_:Iy ws) (_:Nm H u o) (_:o.length<=1000) (_:Mh K c H) (_:Res c H Q E (Rec c) (cB o ws))
theorem qJ(T:Top K mg base c):gz P w K mg base "read_record" 8 ["words","origin"] (DL K c):=by
 have g:=T.g;have hk:=T.hk;refine T.sq.cl ["words","origin","name","time","kind"] ?_;rintro nd _ _ _ _ _ H _ Q E hr ⟨v,u,ws,o,rfl,hB,hwl,hws,hO,hol,hM,q⟩;refine⟨_,(ae (aR (tR kD (gL T (pv 0)) ak) (ah (bA T.aT hk aq)) aB)
  (ae (sS 2 nd (pF (jW T) hr aq (aa (xL cH (pv 0) ak) (aa (pv 1) ag))))
  (ae (aR (jV (jU (pF (nh T) hr aq (aa (pv 2) (aa (pv 1) ag))))) (ah (bA T.aT hk aq)) aB)
  (ae (sS 3 nd (pF (gY T) hr aq (aa (xL cH (pv 0) ak) (aa (aQ g.vp) ag))))
  (ae (sS 4 nd (pF (uy T) hr aq (aa (xL cH (pv 0) ak) ag)))
  (ah (ay (BV (mC T) T.Cd (hr.mono (by decide)) aq (aa (pv 2) (aa (pv 4) (aa (pv 3) (aa (pF (ux T) hr aq (aa (pv 4) (aa (bF f9 (pv 0) (bD ak) dO) (aa (pv 1) ag)))) ag)))))))))))),?_⟩
 have hB':=hB;obtain⟨l,vs,rfl,hl,hp⟩:=hB;have hpl:=Paired.length hp;walk_at "rd";refine cD (aY.of hl) ?_;walk_at "rd";refine aS (fun h=>?_) fun h=>?_
 .refine q.2 ?_ _ (ar.refl _)
  match ws with
  |[]=>rfl
  |[_]=>rfl
  |[_,_]=>rfl
  |_::_::_::_=>rw[JS,JS,JS]at hpl;lia
 obtain⟨n,t,k,rest,rfl⟩:∃n t k rest,ws=n::t::k::rest:=by
  match ws with
  |[]=>rw[J7]at hpl;lia
  |[_]=>rw[JS,J7]at hpl;lia
  |[_,_]=>rw[JS,JS,J7]at hpl;lia
  |n::t::k::rest=>exact⟨n,t,k,rest,rfl⟩
 obtain⟨vn,vt,vk,vr,rfl,hn,ht,hk2,hrest⟩:∃vn vt vk vr,vs=vn::vt::vk::vr/\Bt H vn n/\Bt H vt t/\Bt H vk k/\Paired (Bt H) vr rest:=by
  cases hp with
  |cons r1 p1=>cases p1 with
   |cons r2 p2=>cases p2 with
    |cons r3 p3=>exact⟨_,_,_,_,rfl,r1,r2,r3,p3⟩
 have q:Res c H Q E (Rec c) ((NM.readName o n).bind fun n=>if Sn12.under n o=false then none else(NM.whole t 2147483647).bind fun t=>(NM.kindAt k).bind fun k=>(fV o k rest).map fun s=>⟨n,k,t,s⟩):=q;have wn:=hws n (by simp);refine dP (aY.of hl) (v:=vn) (bG (j:=0) rfl) ?_;refine⟨vn,u,n,o,rfl,hn,wn.1,by have:=wn.2;lia,hO,hol,hM.st,fun nm v1 H1 e1 s1 b1=>?_,fun e1 H1 s1=>q.2 (by rw[e1];rfl) _ s1⟩;rw[e1]at q;dsimp only[Option.bind_some]at q;refine⟨v1,u,nm,o,rfl,b1,hO.same s1,fun H2 s2=>?_⟩;have s02:=s1.trans s2;walk_at "rd";cases hun:Sn12.under nm o with
 |false =>
  rw[JX hun]at q;simp only[Bool.not_false,if_true];exact q.2 rfl _ s02
 |true =>
  rw[JU (by rw[hun];decide)]at q;simp only[Bool.not_true,KB,if_false];refine dP (aY.of (s02 _ _ hl)) (v:=vt) (bG (j:=1) rfl) ?_;refine⟨vt,t,2147483647,rfl,ht.same s02,fun tm v3 H3 e3 s3 b3=>?_,fun e3 H3 s3=>q.2 (by rw[e3];rfl) _ (s02.trans s3)⟩;subst b3;rw[e3]at q;dsimp only[Option.bind_some]at q;have s03:=s02.trans s3;refine dP (aY.of (s03 _ _ hl)) (v:=vk) (bG (j:=2) rfl) ?_;refine⟨vk,k,rfl,hk2.same s03,(hM.same s03).kn,fun kd v4 H4 e4 s4 b4=>?_,fun e4 H4 s4=>q.2 (by rw[e4];rfl) _ (s03.trans s4)⟩;subst b4;rw[e4]at q;dsimp only[Option.bind_some]at q;have s04:=s03.trans s4;refine tq (aY.of (s04 _ _ hl)) fun v5 H5 s5 hv5=>?_;obtain⟨l5,rfl,hl5⟩:=hv5;have ecut:fK (vn::vt::vk::vr) (some 3) none=vr:=fq (vn::vt::vk::vr) 3;rw[ecut]at hl5;have s05:=s04.trans s5;rw[JS,JS,JS]at hwl;refine⟨kd,.ref l5,u,rest,o,rfl,⟨l5,vr,rfl,hl5,Paired.imp (fun _ _ r=>Bt.same r s05) hrest⟩,by lia,fun w hw=>hws w (by simp[hw]),hO.same s05,hol,hM.same s05,fun sd v6 H6 e6 s6 b6=>?_,fun e6 H6 s6=>q.2 (by rw[e6];rfl) _ (s05.trans s6)⟩;rw[e6]at q;dsimp only[Option.map_some]at q;have s06:=s05.trans s6;intro x dx hx hdx hne;have sx:ar H6 (upd (upd H6 dx (.own x)) x (.ins c.CR dx [])):=(aj hdx).trans (aj (by rw[ai (Ne.symm hne)];exact hx));refine⟨x,dx,v1,v6,⟨nm,kd,tm,sd⟩,rfl,af,b1.same ((s2.trans s3).trans ((s4.trans s5).trans (s6.trans sx))),b6.lk (iy sx),(hM.same (s06.trans sx)).kn,fun H7 r7 k7=>⟨rfl,?_⟩⟩;exact q.1 _ _ _ rfl (s06.trans (ar.made hx hdx k7)) r7
inductive FY (c:As) (vs:List V) (H:Hp) (Q:VK) (E:XK):Prop
 |mk (v:V) (p:NM.PR) (_:vs=[v]) (_:Rec c H v p) (_:∀v1 H',ar H H'->(∃a b d e,Tp H' v1 [a,.str (kS p.kind),iv p.time,b,d,e]/\Nm H' a p.name/\Bt H' b p.said.front/\Ns H' d p.said.names/\Bt H' e p.said.back)->Q v1 H')
theorem r0(T:Top K mg base c):gz P w K mg base "record_key" 1 ["record"] (FY c):=by
 refine T.uX.cl ["record"] ?_;rintro nd _ _ _ _ _ H _ Q E hr ⟨v,p,rfl,hR,q⟩;refine⟨_,(ah (ay (bM (aa (pD T (pv 0)) (aa (pD T (pv 0)) (aa (pD T (pv 0)) (aa (pD T (pv 0)) (aa (pD T (pv 0)) (aa (pD T (pv 0)) ag))))))))),?_⟩;obtain⟨a,dx,fs,rfl,h,⟨⟨v1,e1,n1⟩,k,nu,t,⟨v2,e2,n2⟩,⟨v3,e3,n3⟩,⟨v4,e4,n4⟩⟩⟩:=hR;walk_at "rd";refine a0 h T.aN T.f6 e1 (a0 h T.aN T.cW k (a0 h T.aN T.fA t (a0 h T.aN T.iW e2 (a0 h T.aN T.fL e3 (a0 h T.aN T.js e4 ?_)))));refine⟨az (by decide),fun b hb=>?_⟩;have s:=aj (o:=.tup [v1,.str (kS p.kind),iv p.time,v2,v3,v4]) hb;exact q _ _ s ⟨v1,v2,v3,v4,Tp.new,n1.same s,Bt.same n2 s,n3.lk (iy s),Bt.same n4 s⟩
end
section
inductive F0 (K:Lq) (vs:List V) (H:Hp) (Q:VK) (E:XK):Prop
 |mk (a:Addr) (bs:List Nat) (_:vs=[.ref a]) (_:aY K H a (nz bs)) (_:bs.length<=65536) (_:∀H',ar H H'->Q (.bl (!NM.badLine bs)) H')
theorem Ar(T:Top K mg base c):gz P w K mg base "is_fit" 1 ["line"] (F0 K):=by
 have g:=T.g;refine T.C1.cl ["line","octet"] ?_;rintro nd _ _ _ _ _ H _ Q E hr ⟨a,bs,rfl,hS,hl,q⟩;refine⟨_,(ah (ay (B1 (lH fX (gL T (pv 0)) (aQ g.vv) (oy _)) (yf (jw (C7 (K:=K) rfl rfl) (by rfl) g.all Da (aa (gh (own:=[("octet",1)]) aq rfl rfl rfl nd (cG (pv 0)) (cP (by kernel_rfl)) (fun _ _ _ _ _ _ hA=>(gN 1 nd)) (fun _ _ _ _ _ _ hA=>fE) (fun _ _ _ _ _ _ hA=>(qC fX fX (aQ g.xw) (pv 1) (aQ g.vw)))) ag)))))),?_⟩;walk_at "rd";refine cD hS ?_;walk_at "rd";rw[aD];have eb:NM.badLine bs=(decide (600<bs.length)||bs.any fun c=>decide (c<32\/126<c)):=rfl;refine aS (fun h=>⟨⟨_,hS⟩,fun D hD=>?_⟩) fun h=>?_
 .refine ja (Walk.l hS) (R:=In) (S:=fun _ v b=>v=V.bl b) zr (fun _ _ _ _ _ h=>h) (fun _ _ _ _ _ h=>h) (fun n=>decide (32<=n/\n<=126)) (by lia) hD (fun i d x H' k h1 h2 h3 h4=>?_) fun acc H' ha hp s=>?_
  .subst h2;walk_at "rd";refine aS (fun h1=>h4 _ _ (ar.refl _) ?_) fun h1=>h4 _ _ (ar.refl _) ?_
   .congr 1;rw[Bool.eq_iff_iff];simp only[Lo];lia
   .congr 1;rw[Bool.eq_iff_iff];simp only[Lo,KB];exact⟨fun z=>z.elim,fun z=>absurd z.1 (by lia)⟩
  .have e:acc=(bs.map fun n=>decide (32<=n/\n<=126)).map V.bl:=by
    generalize (bs.map fun n=>decide (32<=n/\n<=126))=bl at hp;clear ha;induction hp with
    |nil=>rfl
    |cons r t ih=>rw[r,ih];rfl
   rw[e]at ha;refine FI (aY.of ha) ?_;have e2:(!NM.badLine bs)=(bs.map fun n=>decide (32<=n/\n<=126)).all id:=by
    rw[eb,Kl (by lia:¬600<bs.length),Bool.false_or,List.all_map,Bool.eq_iff_iff];simp only[Ln,Bool.not_eq_true',List.any_eq_false,Function.comp,id,Lo];exact⟨fun h x hx=>by have:=h x hx;lia,fun h x hx=>by have:=h x hx;lia⟩
   rw[<-e2];exact q _ s
 .have:=q _ (ar.refl _);rw[eb,KO (by lia:600<bs.length),Bool.true_or]at this;exact this
inductive Bx (K:Lq) (c:As) (vs:List V) (H:Hp) (Q:VK) (E:XK):Prop
 |mk (a:Addr) (bs:List Nat) (_:vs=[.ref a]) (_:aY K H a (nz bs)) (_:bs.length<=600) (_:nW c H) (_:Res c H Q E Nm (fW bs))
theorem Ed:(Str.ofString "$ORIGIN").cps.toList=Sn12.ascii "$ORIGIN":=by decide +kernel
theorem m8(T:Top K mg base c):gz P w K mg base "origin_of_line" 7 ["line"] (Bx K c):=by
 have hk:=T.hk;refine T.oI.cl ["line","words"] ?_;rintro nd _ _ _ _ _ H _ Q E hr ⟨a,bs,rfl,hS,hl,hs,q⟩;refine⟨_,(ae (sS 1 nd (pF (kF T) hr aq (aa (pv 0) ag)))
  (ae (aR (PW.pt (o5 (tR gM (gL T (pv 1)) ak) (kx (tR (qG (dZ hr)) (xL cH (pv 1) ak) (pF (qI T) hr aq (aa fB ag)))))) (ah (bA T.aT hk aq)) aB)
  (ah (ay (pF (qK T) hr aq (aa (xL cH (pv 1) ak) ag)))))),?_⟩
 unfold fW at q;walk_at "rd";refine⟨a,bs,rfl,hS,by lia,fun ws v1 H1 hw s1 b1=>?_,fun hn H1 s1=>q.2 (by rw[hn]) _ s1⟩;have hok:=vB bs.length bs ws (JY _) hw;rw[hw]at q;obtain⟨l,vs,rfl,hl1,hp⟩:=b1;have hpl:=Paired.length hp;walk_at "rd";refine cD (aY.of hl1) ?_;walk_at "rd";refine aS (fun h=>?_) fun h=>?_
 .refine q.2 ?_ _ s1
  match ws with
  |[]=>rfl
  |[_]=>rfl
  |[_,_]=>rw[JS,JS,J7]at hpl;lia
  |_::_::_::_=>rfl
 obtain⟨n,t,rfl⟩:∃n t,ws=[n,t]:=by
  match ws with
  |[]=>rw[J7]at hpl;lia
  |[_]=>rw[JS,J7]at hpl;lia
  |[n,t]=>exact⟨n,t,rfl⟩
  |_::_::_::_=>rw[JS,JS,JS]at hpl;lia
 obtain⟨vn,vt,rfl,hn,ht⟩:∃vn vt,vs=[vn,vt]/\Bt H1 vn n/\Bt H1 vt t:=by
  cases hp with
  |cons r1 p1=>cases p1 with
   |cons r2 p2=>cases p2 with
    |nil=>exact⟨_,_,rfl,r1,r2⟩
 dsimp only at q;refine dP (aY.of hl1) (v:=vn) (bG (j:=0) rfl) ?_;refine⟨_,rfl,by decide +kernel,fun v2 H2 s2 b2=>?_⟩;rw[Ed]at b2;refine HW (hn.same s2) b2 ?_;walk_at "rd";refine aS (fun h1=>?_) fun h1=>?_
 .rw[JU h1]at q;exact q.2 rfl _ (s1.trans s2)
 .rw[JX (Decidable.not_not.mp h1)]at q;refine dP (aY.of (s2 _ _ hl1)) (v:=vt) (bG (j:=1) rfl) ?_;have ho:=hok t (by simp);exact⟨vt,t,rfl,ht.same s2,ho.1.ne,by have:=ho.2.1;lia,hs.same (s1.trans s2),q.from (s1.trans s2)⟩
noncomputable def lineRecs(o:List (List Nat))(b:List Nat):Option (List NM.PR):=(NM.wd b).bind fun ws=>if ws=[] then some [] else(cB o ws).map fun r=>[r]
inductive Bs (K:Lq) (c:As) (vs:List V) (H:Hp) (Q:VK) (E:XK):Prop
 |mk (a:Addr) (bs:List Nat) (u:V) (o:List (List Nat)) (_:vs=[.ref a,u]) (_:aY K H a (nz bs)) (_:bs.length<=600) (_:Nm H u o) (_:o.length<=1000) (_:Mh K c H) (_:Res c H Q E (Ls (Rec c)) (lineRecs o bs))
theorem mw(T:Top K mg base c):gz P w K mg base "records_of_line" 9 ["line","origin"] (Bs K c):=by
 refine T.nM.cl ["line","origin","words"] ?_;rintro nd _ _ _ _ _ H _ Q E hr ⟨a,bs,u,o,rfl,hS,hl,hO,hol,hM,q⟩;refine⟨_,(ae (sS 2 nd (pF (kF T) hr aq (aa (pv 0) ag)))
  (ah (ay (iO (tR d4 (gL T (pv 2)) ak) (bN ag) (bN (aa (pF (qJ T) hr aq (aa (pv 2) (aa (pv 1) ag))) ag)))))),?_⟩
 unfold lineRecs at q;walk_at "rd";refine⟨a,bs,rfl,hS,by lia,fun ws v1 H1 hw s1 b1=>?_,fun hn H1 s1=>q.2 (by rw[hn];rfl) _ s1⟩;have hok:=vB bs.length bs ws (JY _) hw;have hcnt:=mP bs.length bs ws (JY _) hw;rw[hw]at q;dsimp only[Option.bind_some]at q;have b1':=b1;obtain⟨l,vs,rfl,hl1,hp⟩:=b1;have hpl:=Paired.length hp;walk_at "rd";refine cD (aY.of hl1) ?_;walk_at "rd";refine aS (fun h=>⟨az (by decide),fun p hp=>?_⟩) fun h=>?_
 .rw[JX (List.eq_nil_of_length_eq_zero (by lia))]at q;exact q.1 _ _ _ rfl (s1.trans (aj hp)) ⟨p,[],rfl,af,.nil⟩
 .rw[JU (by intro z;rw[z,J7]at hpl;lia)]at q;refine⟨.ref l,u,ws,o,rfl,b1',by lia,fun w hw=>⟨(hok w hw).1.ne,by have:=(hok w hw).2.1;lia⟩,hO.same s1,hol,hM.same s1,fun r v2 H2 hr s2 b2=>⟨az (by decide),fun p hp=>?_⟩,fun hr H2 s2=>q.2 (by rw[hr];rfl) _ (s1.trans s2)⟩;rw[hr]at q;have s3:=aj (o:=.lst [v2]) hp;exact q.1 _ _ _ rfl ((s1.trans s2).trans s3) ⟨p,[v2],rfl,af,.cons (b2.same s3) .nil⟩
end
theorem CA{k:Int}{j:Nat}{Q:Hp->Prop}(h:H p=some (.lst xs))(hk:k=(j:Int))(hj:j<xs.length)(q:Q (upd H p (.lst (xs.set j v)))):Fu (.ref p) (.int k) v H Q:=by
 subst hk;refine⟨p,xs,j,j,rfl,rfl,h,?_,q⟩;unfold Dw;rw[JX (by lia),JX (by lia),Lj]
theorem A6{o:Obj}{g:TG}{tb:TS}(Pv:Nat->St->Hp->Prop)(h0:Pv 0 σ H)(hl:∀i σ H',Pv i σ H'->H' d=some (.frz o (.dT kvs)))(hs:∀i k v σ H,kvs[i]?=some (k,v)->Pv i σ H->g v σ H fun σ2 H2=>tb {D with nx:=Pv (i+1),ct:=Pv (i+1),bk:=D.nx} σ2 H2)(hd:∀σ H,Pv kvs.length σ H->D.nx σ H):lq (E0 d o kvs) g tb D σ H:=by
 refine⟨fun i m σ H=>m=kvs.length-i/\i<=kvs.length/\Pv i σ H,⟨kvs.length,by simp,Kq _,h0⟩,?_⟩;rintro i m σ H ⟨rfl,hi,p⟩;have q:=hl i σ H p;by_cases hlt:i<kvs.length
 .refine .inr ⟨⟨q,hlt⟩,Pv (i+1),fun σ' H' p'=>⟨kvs.length-(i+1),by lia,rfl,hlt,p'⟩,fun v H' y=>?_⟩;obtain⟨rfl,k,hk⟩:=y;exact hs i k v σ _ hk p
 .have e:i=kvs.length:=by lia
  subst e;exact .inl ⟨⟨q,JY _⟩,hd σ H p⟩
theorem A7{o:Obj}{g:TG}{tb:TS}(Pv:Nat->St->Hp->Prop)(h0:Pv 0 σ H)(hl:∀i σ H',Pv i σ H'->H' d=some (.frz o (.dT kvs)))(hs:∀i k v b σ H,kvs[i]?=some (k,v)->vA H b k->Pv i σ H->g (.ref b) σ H fun σ2 H2=>tb {D with nx:=Pv (i+1),ct:=Pv (i+1),bk:=D.nx} σ2 H2)(hd:∀σ H,Pv kvs.length σ H->D.nx σ H):lq (E2 d o kvs) g tb D σ H:=by
 refine⟨fun i m σ H=>m=kvs.length-i/\i<=kvs.length/\Pv i σ H,⟨kvs.length,by simp,Kq _,h0⟩,?_⟩;rintro i m σ H ⟨rfl,hi,p⟩;have q:=hl i σ H p;by_cases hlt:i<kvs.length
 .refine .inr ⟨⟨q,hlt⟩,Pv (i+1),fun σ' H' p'=>⟨kvs.length-(i+1),by lia,rfl,hlt,p'⟩,fun v H' y=>?_⟩;obtain⟨rfl,k,u,b,hk,rfl,kb⟩:=y;exact hs i k u b σ _ hk kb p
 .have e:i=kvs.length:=by lia
  subst e;exact .inl ⟨⟨q,JY _⟩,hd σ H p⟩
noncomputable def kI:List Nat->KD
 |[]=>.nil
 |b::bs=>.cons (.int (b:Int)) (kI bs)
noncomputable def kN:List (List Nat)->KD
 |[]=>.nil
 |l::n=>.cons (kI l) (kN n)
noncomputable def kM:List (List (List Nat))->KD
 |[]=>.nil
 |n::ns=>.cons (kN n) (kM ns)
noncomputable def kR(p:NM.PR):KD:=.cons (kN p.name) (.cons (.str (kS p.kind)) (.cons (.int (p.time:Int)) (.cons (kI p.said.front) (.cons (kM p.said.names) (.cons (kI p.said.back) .nil)))))
theorem uK:∀{a b:List Nat},kI a=kI b->a=b
 |[],[],_=>rfl
 |[],_::_,h=>nomatch h
 |_::_,[],h=>nomatch h
 |x::a,y::b,h=>by
  injection h with h1 h2
  injection h1 with h1
  rw[Int.ofNat.inj h1,uK h2]
theorem oG:∀{a b:List (List Nat)},kN a=kN b->a=b
 |[],[],_=>rfl
 |[],_::_,h=>nomatch h
 |_::_,[],h=>nomatch h
 |x::a,y::b,h=>by
  injection h with h1 h2
  rw[uK h1,oG h2]
theorem Co:∀{a b:List (List (List Nat))},kM a=kM b->a=b
 |[],[],_=>rfl
 |[],_::_,h=>nomatch h
 |_::_,[],h=>nomatch h
 |x::a,y::b,h=>by
  injection h with h1 h2
  rw[oG h1,Co h2]
theorem GB{p q:NM.PR}(h:kR p=kR q):p=q:=by
 obtain⟨n,k,t,⟨f,ns,b⟩⟩:=p;obtain⟨n',k',t',⟨f',ns',b'⟩⟩:=q;unfold kR at h;injection h with h1 h
 injection h with h2 h
 injection h with h3 h
 injection h with h4 h
 injection h with h5 h
 injection h with h6 h
 injection h2 with h2
 injection h3 with h3
 have e1:=oG h1;have e2:=jl h2;have e3:=Int.ofNat.inj h3;have e4:=uK h4;have e5:=Co h5;have e6:=uK h6;dsimp only at e1 e2 e3 e4 e5 e6;subst e1 e2 e3 e4 e5 e6;rfl
theorem uL:∀a:List Nat,(kI a).dep<=1
 |[]=>by decide
 |b::a=>by have:=uL a;simp only[kI,KD.dep];lia
theorem uJ:∀a:List (List Nat),(kN a).dep<=2
 |[]=>by decide
 |b::a=>by have:=uJ a;have:=uL b;simp only[kN,KD.dep];lia
theorem Cp:∀a:List (List (List Nat)),(kM a).dep<=3
 |[]=>by decide
 |b::a=>by have:=Cp a;have:=uJ b;simp only[kM,KD.dep];lia
theorem GC(p:NM.PR):(kR p).dep<=6:=by
 have h1:=uJ p.name;have h2:=uL p.said.front;have h3:=Cp p.said.names;have h4:=uL p.said.back;simp only[kR,KD.dep];lia
theorem Fy:∀bs:List Nat,nY H (nz bs) (kI bs)
 |[]=>.nil
 |b::bs=>.cons (.int _) (Fy bs)
theorem Tp.kd{k:KD}(h:Tp H v xs)(i:nY H xs k):rQ H v k:=by
 obtain⟨a,rfl,r⟩:=h;exact .tup r i
theorem Bt.kd{bs:List Nat}(h:Bt H v bs):rQ H v (kI bs):=Tp.kd h (Fy bs)
theorem wz:∀{vs:List V} {n:List (List Nat)},Paired (Bt H) vs n->nY H vs (kN n)
 |_,_,.nil=>.nil
 |_,_,.cons r t=>.cons (Bt.kd r) (wz t)
theorem Nm.kd(h:Nm H v n):rQ H v (kN n):=by
 obtain⟨vs,t,p⟩:=h;exact Tp.kd t (wz p)
theorem Fz:∀{vs:List V} {n:List (List (List Nat))},Paired (Nm H) vs n->nY H vs (kM n)
 |_,_,.nil=>.nil
 |_,_,.cons r t=>.cons (Nm.kd r) (Fz t)
theorem Ns.kd{n:List (List (List Nat))}(h:Ns H v n):rQ H v (kM n):=by
 obtain⟨vs,t,p⟩:=h;exact Tp.kd t (Fz p)
theorem Nm.kat(h:Nm H v n):∃b,v = .ref b/\vA H b (kN n):=by
 have k:=h.kd;obtain⟨vs,⟨a,rfl,r⟩,p⟩:=h;exact⟨a,rfl,k,KH (uJ n) (by decide)⟩
theorem Cc:∀{n:List (List Nat)} {v:V},rQ H v (kN n)->Nm H v n:=by
 have bt:∀{bs:List Nat} {xs:List V},nY H xs (kI bs)->xs=nz bs:=by
  intro bs;induction bs with
  |nil=>intro xs h;cases h;rfl
  |cons b bs ih =>
   intro xs h;cases h with
   |cons h1 h2 =>
    cases h1 with
    |int i=>rw[ih h2];rfl
    |tup _ z=>cases z
 have btv:∀{bs:List Nat} {v:V},rQ H v (kI bs)->Bt H v bs:=by
  intro bs v h;generalize hk:kI bs=k at h;cases h with
  |int i=>cases bs<;>cases hk
  |str i=>cases bs<;>cases hk
  |tup r i =>
   subst hk;have:=bt i;subst this;exact⟨_,rfl,r⟩
 have nms:∀{n:List (List Nat)} {xs:List V},nY H xs (kN n)->Paired (Bt H) xs n:=by
  intro n;induction n with
  |nil=>intro xs h;cases h;exact .nil
  |cons l n ih =>
   intro xs h;cases h with
   |cons h1 h2=>exact .cons (btv h1) (ih h2)
 intro n v h;generalize hk:kN n=k at h;cases h with
 |int i=>cases n<;>cases hk
 |str i=>cases n<;>cases hk
 |tup r i =>
  subst hk;exact⟨_,⟨_,rfl,r⟩,nms i⟩
noncomputable def Dc{κ δ:Type}(key:δ->κ)(S:V->δ->Prop)(kvs:List (κ×V))(ds:List δ):Prop:=Paired (fun kv d=>kv.1=key d/\S kv.2 d) kvs ds
section
variable{κ δ:Type} [DecidableEq κ] {key:δ->κ}{S:V->δ->Prop}(inj:∀a b,key a=key b->a=b)
include inj
theorem Dc.none_of:∀{kvs:List (κ×V)} {ds:List δ} {d:δ},Dc key S kvs ds->d∉ds->d9 kvs (key d)=none
 |_,_,_,.nil,_=>A5
 |_,_,d,.cons (a:=kv) (b:=e) r t,h=>by
  rw[dU (fun z=>h (by rw[inj _ _ (z.symm.trans r.1)];exact J8))];exact Dc.none_of t fun z=>h (J0 _ z)
theorem Dc.some_of:∀{kvs:List (κ×V)} {ds:List δ} {d:δ},Dc key S kvs ds->d∈ds->∃v,d9 kvs (key d)=some v/\S v d
 |_,_,_,.nil,h=>nomatch h
 |_,_,d,.cons (a:=kv) (b:=e) r t,h=>by
  by_cases z:kv.1=key d
  .have:e=d:=inj _ _ (r.1.symm.trans z);subst this;exact⟨kv.2,d7 z,r.2⟩
  .rw[dU z];refine Dc.some_of t ?_;rcases Kg.mp h with q|q
   .subst q;exact absurd r.1 z
   .exact q
theorem Dc.is{kvs:List (κ×V)}{ds:List δ}{d:δ}[Decidable (d∈ds)](h:Dc key S kvs ds):(d9 kvs (key d)).isSome=decide (d∈ds):=by
 by_cases z:d∈ds
 .obtain⟨v,e,_⟩:=h.some_of inj z;rw[e,KO z];rfl
 .rw[h.none_of inj z,Kl z];rfl
theorem Dc.new{kvs:List (κ×V)}{ds:List δ}{d:δ}(h:Dc key S kvs ds)(n:d∉ds)(s:S v d):putK kvs (key d) v=kvs++[(key d,v)]/\Dc key S (putK kvs (key d) v) (ds++[d]):=by
 have e:=qA v (h.none_of inj n);refine⟨e,?_⟩;rw[e];exact Paired.snoc h ⟨rfl,s⟩
end
theorem Dc.imp{κ δ:Type}{key:δ->κ}{S R:V->δ->Prop}{kvs:List (κ×V)}{ds:List δ}(h:Dc key S kvs ds)(i:∀v d,S v d->R v d):Dc key R kvs ds:=Paired.imp (fun _ _ r=>⟨r.1,i _ _ r.2⟩) h
theorem Dc.len{κ δ:Type}{key:δ->κ}{S:V->δ->Prop}{kvs:List (κ×V)}{ds:List δ}(h:Dc key S kvs ds):kvs.length=ds.length:=Paired.length h
theorem gu(a b:List (List Nat))(h:kN a=kN b):a=b:=oG h
theorem uI(a b:NM.PR)(h:kR a=kR b):a=b:=GB h
theorem wK{S:V->List (List Nat)->Prop}{ds:List (List (List Nat))}{Q:Option V->Prop}(h:Rd H a (.dT kvs))(hd:Dc kN S kvs ds)(hn:Nm H v n)(q:∀o,o.isSome=decide (n∈ds)->Q o):xB H v a Q:=by
 obtain⟨b,rfl,kb⟩:=hn.kat;exact⟨_,.inr ⟨kvs,kN n,b,h,rfl,kb,rfl⟩,q _ (hd.is gu)⟩
theorem uQ{u:V}{Q:Hp->Prop}(h:H a=some (.dT kvs))(hn:Nm H v n)(hl:kvs.length<16777216)(q:Q (upd H a (.dT (putK kvs (kN n) u)))):yQ H v u a Q:=by
 obtain⟨b,rfl,kb⟩:=hn.kat;exact⟨_,Dq.t h kb (gZ hl),q⟩
section
theorem z7{lo cc:Int}{n:Nat}{g:TG}{tb:TS}(Pv:Nat->St->Hp->Prop)(h0:Pv 0 σ H)(hs:∀i σ H,i<n->Pv i σ H->g (.int (lo+(i:Nat)*cc)) σ H fun σ2 H2=>tb {D with nx:=Pv (i+1),ct:=Pv (i+1),bk:=D.nx} σ2 H2)(hd:∀σ H,Pv n σ H->D.nx σ H):lq (G3 lo cc n) g tb D σ H:=yx Pv h0 hs hd
theorem LsR.same{xs:List NM.PR}(h:Ls (Rec c) H v xs)(s:ar H H'):Ls (Rec c) H' v xs:=by
 obtain⟨l,vs,rfl,hl,hp⟩:=h;exact⟨l,vs,rfl,s _ _ hl,Paired.imp (fun _ _ r=>Rec.same r s) hp⟩
structure Iw (c:As) (H:Hp) (fs:List (Str×V)) (d:Addr) (o:List (List Nat)) (xs:List NM.PR):Prop where
 origin:∃v,fs.lookup ("origin":Str)=some v/\Nm H v o
 by_name:fs.lookup ("by_name":Str)=some (.ref d)
 dict:∃kvs ns,H d=some (.dT kvs)/\Dc kN (fun v n=>Ls (Rec c) H v (NM.own xs n)) kvs ns/\∀n,n∈ns↔∃p∈xs,p.name=n
 there:∃e kvs ts,fs.lookup ("there":Str)=some (.ref e)/\H e=some (.dT kvs)/\Dc kN (fun _ _=>True) kvs ts/\∀n,n∈ts↔lQ o xs n
 oth:∀f:Str,f≠"origin"->f≠"by_name"->f≠"there"->fs.lookup f=none
inductive Ha (c:As) (H:Hp) (v:V) (d:Addr) (o:List (List Nat)) (xs:List NM.PR):Prop
 |mk (a dx:Addr) (fs:List (Str×V)) (_:v = .ref a) (_:H a=some (.ins c.CZ dx fs)) (_:Iw c H fs d o xs)
noncomputable def Zn(c:As)(H:Hp)(v:V)(o:List (List Nat))(xs:List NM.PR):Prop:=∃d,Ha c H v d o xs
theorem Iw.same{fs:List (Str×V)}{xs:List NM.PR}(h:Iw c H fs d o xs)(s:ar H H'):Iw c H' fs d o xs:=by
 obtain⟨⟨v,e1,n1⟩,e2,⟨kvs,ns,hd,dc,hn⟩,⟨e,kvs2,ts,e3,he,dc2,ht⟩,oth⟩:=h;exact⟨⟨v,e1,n1.same s⟩,e2,⟨kvs,ns,s _ _ hd,dc.imp fun _ _ r=>LsR.same r s,hn⟩,⟨e,kvs2,ts,e3,s _ _ he,dc2,ht⟩,oth⟩
theorem Ha.same{xs:List NM.PR}(h:Ha c H v d o xs)(s:ar H H'):Ha c H' v d o xs:=by
 obtain⟨a,dx,fs,rfl,h,f⟩:=h;exact⟨a,dx,fs,rfl,s _ _ h,f.same s⟩
theorem Zn.same{xs:List NM.PR}(h:Zn c H v o xs)(s:ar H H'):Zn c H' v o xs:=let ⟨d,h⟩:=h;⟨d,h.same s⟩
inductive DO (c:As) (vs:List V) (H:Hp) (Q:VK) (E:XK):Prop
 |mk (v u:V) (o:List (List Nat)) (xs:List NM.PR) (n:List (List Nat)) (_:vs=[v,u]) (_:Zn c H v o xs) (_:Nm H u n) (_:i6 H Q (Ls (Rec c)) (NM.own xs n))
theorem fT(T:Top K mg base c):xt P w K mg base c.CZ "own_records" 1 ["self","name"] (DO c):=by
 have g:=T.g;refine T.mJ.cl ["self","name"] ?_;rintro nd _ _ _ _ _ H _ Q E hr ⟨v,u,o,xs,n,rfl,hZ,hN,q⟩;refine⟨_,(ah (ay (dS (EJ (K:=K) rfl) (by rfl) g.list zQ (aa (B0 (dZ hr) (pD T (pv 0)) (pv 1) (bN ag) ⟨rfl,rfl,rfl,rfl⟩) ag)))),?_⟩;obtain⟨d,a,dx,fs,rfl,h,⟨⟨v,e1,n1⟩,e2,⟨kvs,ns,hd,dc,hns⟩,⟨e,kvs2,ts,e3,he,dc2,ht⟩,oth⟩⟩:=hZ;walk_at "rd";refine a0 h T.cM T.gw e2 ?_;walk_at "rd";refine⟨.inr ⟨kvs,.inl hd⟩,az (by decide),fun l hl=>?_⟩;have s1:=aj (o:=.lst []) hl;obtain⟨b,rfl,kb⟩:=(hN.same s1).kat;by_cases hm:n∈ns
 .obtain⟨w1,e4,l2,vs2,rfl,hl2,hp⟩:=dc.some_of gu hm;refine⟨some (.ref l2),.inr ⟨kvs,kN n,b,.inl (s1 _ _ hd),rfl,kb,e4.symm⟩,?_⟩;refine CC (.inl (aY.of (s1 _ _ hl2))) fun p hp2=>?_;exact q _ _ (s1.trans (aj hp2)) ⟨p,vs2,rfl,af,Paired.imp (fun _ _ r=>Rec.same r (s1.trans (aj hp2))) hp⟩
 .have e5:NM.own xs n=[]:=qF fun p hp z=>hm ((hns n).mpr ⟨p,hp,z⟩);refine⟨none,.inr ⟨kvs,kN n,b,.inl (s1 _ _ hd),rfl,kb,(dc.none_of gu hm).symm⟩,?_⟩;refine CC (.inl (aY.of af)) fun p hp2=>?_;exact q _ _ (s1.trans (aj hp2)) ⟨p,[],rfl,af,by rw[e5];exact .nil⟩
theorem j0{g:TG}{D:Addr}{δ ε:Type}(w:Walk K H J xs){R:Hp->V->δ->Prop}{S:Hp->V->ε->Prop}{ds:List δ}(hP:Paired (R H) xs ds)(hR:∀H H' v d,ar H H'->R H v d->R H' v d)(hS:∀H H' v d,Lk H H'->S H v d->S H' v d)(p:δ->Bool)(f:δ->ε)(hlen:ds.length<=16777216)(hD:H D=none)(hs:∀(i:Nat) d x H' (k:VK) (kn:Hp->Prop),ds[i]?=some d->R H' x d->ar H H'->(p d=true->∀y H4,ar H' H4->S H4 y (f d)->k y H4)->(p d=false->∀H4,ar H' H4->kn H4) ->
   g x (wipe σ vs) H' fun σ2 H2=>wipe σ2 vs=wipe σ vs/\tt σ2 H2 fun b H3=>if b=true then te σ2 H3 k else kn H3)(hd:∀acc H',H' D=some (.lst acc)->Paired (S H') acc ((ds.filter p).map f)->ar H H'->Q (.ref D) H'):Dx J g tt te vs σ H Q D:=by
 have snoc:∀(i:Nat) d,ds[i]?=some d->ds.take (i+1)=ds.take i++[d]:=fun i d h=>by rw[List.take_succ,h];rfl
 refine wu w (fun i H'=>∃acc,H' D=some (.lst acc)/\Paired (S H') acc (((ds.take i).filter p).map f)/\ar H H') ⟨[],af,.nil,aj hD⟩ (fun i H' ⟨_,_,_,s⟩=>s) ?_ ?_
 .rintro i x H' hx ⟨acc,ha,hp,s⟩;obtain⟨d,hd1,hr⟩:=Paired.get hP hx;have hsn:=snoc i d hd1;have hil:i<ds.length:=(JW.mp hd1).1;have hal:=Paired.length hp;have hfi:((ds.take i).filter p).length<=i:=KH (List.length_filter_le _ _) (by rw[Kf];exact Nat.min_le_left _ _);rw[Kk]at hal;refine hs i d x H' _ _ hd1 (hR _ _ _ _ s hr) s (fun pt y H4 s4 hS4=>?_) (fun pf H4 s4=>?_)
  .have ha4:=s4 _ _ ha;have l5:Lk H4 (upd H4 D (.lst (acc++[y]))):=jZ ha4;refine⟨acc,ha4,gZ (by lia),acc++[y],af,?_,a8 (s.trans s4) hD⟩;rw[hsn,List.filter_append,List.filter_cons_of_pos pt,List.filter_nil,List.map_append];exact Paired.snoc (Paired.imp (fun v d r=>hS _ _ v d ((iy s4).trans l5) r) hp) (hS _ _ _ _ l5 hS4)
  .refine⟨acc,s4 _ _ ha,?_,s.trans s4⟩;rw[hsn,List.filter_append,List.filter_cons_of_neg (by simp[pf]),List.filter_nil,Kw];exact Paired.imp (fun v d r=>hS _ _ v d (iy s4) r) hp
 .rintro H' ⟨acc,ha,hp,s⟩;have hl:xs.length=ds.length:=Paired.length hP;rw[hl,List.take_length]at hp;exact hd acc H' ha hp s
inductive Bv (c:As) (vs:List V) (H:Hp) (Q:VK) (E:XK):Prop
 |mk (v u:V) (o:List (List Nat)) (xs:List NM.PR) (n:List (List Nat)) (k:NM.Kd) (_:vs=[v,u,.str (kS k)]) (_:Zn c H v o xs) (_:Nm H u n) (_:xs.length<=70000) (_:i6 H Q (Ls (Rec c)) (fF xs n k))
theorem Zn.ins{xs:List NM.PR}(h:Zn c H v o xs):∃a,v = .ref a/\∀m:Str,m≠"origin"->m≠"by_name"->m≠"there"->jg c.CZ m H a:=by
 obtain⟨d,a,dx,fs,rfl,h,f⟩:=h;exact⟨a,rfl,fun m h1 h2 h3=>⟨dx,fs,h,f.oth m h1 h2 h3⟩⟩
theorem kB{xs:List NM.PR}:(NM.own xs n).length<=xs.length:=List.length_filter_le _ _
theorem cQ(T:Top K mg base c):xt P w K mg base c.CZ "records_of" 2 ["self","name","kind"] (Bv c):=by
 refine T.nQ.cl ["self","name","kind","record"] ?_;rintro nd _ _ _ _ _ H _ Q E hr ⟨v,u,o,xs,n,k,rfl,hZ,hN,hlx,q⟩;refine⟨_,(ah (ay (gh (own:=[("record",3)]) aq rfl rfl rfl nd (cG (fI (pv 0) (fT T) T.cM (hr.mono (by decide)) aq (aa (pv 1) ag))) (cP (by kernel_rfl)) (fun _ _ _ _ _ _ hA=>(gN 3 nd)) (fun _ _ _ _ _ _ hA=>(pW (tR d4 (pD T (pv 3)) (pv 2)))) (fun _ _ _ _ _ _ hA=>(pv 3))))),?_⟩;obtain⟨a,rfl,hi⟩:=hZ.ins;walk_at "rd";refine⟨hi _ (by decide +kernel) (by decide +kernel) (by decide +kernel),.ref a,u,o,xs,n,rfl,hZ,hN,fun v1 H1 s1 hL=>?_⟩;obtain⟨l,vs,rfl,hl,hp⟩:=hL;refine⟨⟨_,aY.of hl⟩,fun D hD=>?_⟩;have:=kB (xs:=xs) (n:=n);refine j0 (Walk.l (aY.of hl)) (R:=Rec c) (S:=Rec c) hp (fun _ _ _ _ s r=>r.same s) (fun _ _ _ _ s r=>r.lk s) (fun p=>decide (p.kind=k)) id (by lia) hD (fun i d x H' kk kn h1 h2 h3 h4 h5=>?_) fun acc H' ha hp' s=>?_
 .obtain⟨ra,rdx,rfs,rfl,rh,rf⟩:=id h2;walk_at "rd";refine a0 rh T.aN T.cW rf.kind ?_;walk_at "rd";refine aS (fun h=>h4 (KO (jl h)) _ _ (ar.refl _) h2) fun h=>h5 (Kl fun z=>h (by rw[z])) _ (ar.refl _)
 .rw[List.map_id]at hp';exact q _ _ (s1.trans s) ⟨D,acc,rfl,ha,hp'⟩
inductive DT (c:As) (vs:List V) (H:Hp) (Q:VK) (E:XK):Prop
 |mk (v:V) (o:List (List Nat)) (xs:List NM.PR) (p:NM.PR) (r:List NM.PR) (_:vs=[v]) (_:Zn c H v o xs) (_:xs.length<=70000) (_:fF xs o .SOA=p::r) (_:i6 H Q (Rec c) p)
theorem ji(T:Top K mg base c):xt P w K mg base c.CZ "authority_record" 3 ["self"] (DT c):=by
 refine T.jG.cl ["self"] ?_;rintro nd _ _ _ _ _ H _ Q E hr ⟨v,o,xs,p,r,rfl,hZ,hlx,hp,q⟩;refine⟨_,(ah (ay (xL cH (fI (pv 0) (cQ T) T.cM (hr.mono (by decide)) aq (aa (pD T (pv 0)) (aa fB ag))) ak))),?_⟩;obtain⟨a,rfl,hi⟩:=hZ.ins;obtain⟨d,a',dx,fs,ea,h,f⟩:=id hZ;cases ea;obtain⟨v1,e1,n1⟩:=f.origin;walk_at "rd";refine⟨hi _ (by decide +kernel) (by decide +kernel) (by decide +kernel),a0 h T.cM T.eB e1 ?_⟩;refine⟨.ref a,v1,o,xs,o,.SOA,rfl,hZ,n1,hlx,fun v2 H2 s2 hL=>?_⟩;obtain⟨l,vs,rfl,hl,hp2⟩:=hL;rw[hp]at hp2;cases hp2 with
 |cons r1 t1=>exact dP (aY.of hl) (bG (j:=0) rfl) (q _ _ s2 r1)
noncomputable def IC(H:Hp)(v:V):Option (List (List Nat))->Prop
 |some n=>Nm H v n
 |none=>v = .non
inductive F2 (c:As) (vs:List V) (H:Hp) (Q:VK) (E:XK):Prop
 |mk (v u:V) (o:List (List Nat)) (xs:List NM.PR) (n:List (List Nat)) (_:vs=[v,u]) (_:Zn c H v o xs) (_:xs.length<=70000) (_:Nm H u n) (_:n.length<=100000) (_:Sn12.under n o=true) (_:i6 H Q IC ((NM.zn o xs).cut n))
inductive IU (H:Hp) (o:List (List Nat)) (xs:List NM.PR) (n:List (List Nat)) (a an:Addr) (i:Nat) (σ:St) (H':Hp):Prop
 |mk (x:_) (_:σ=[some (.ref a),some (.ref an),x]) (_:ar H H') (_:i<=n.length-o.length) (_:∀j m,j<i->((List.range (n.length-o.length)).reverse.map fun i=>n.drop i)[j]?=some m->(!(fF xs m .NS).isEmpty)=false)
theorem lT(T:Top K mg base c):xt P w K mg base c.CZ "cut_or_none" 3 ["self","name"] (F2 c):=by
 have g:=T.g;refine T.mK.cl ["self","name","start"] ?_;rintro nd _ _ _ _ _ H _ Q E hr ⟨v,u,o,xs,n,rfl,hZ,hlx,hN,hnl,hu,q⟩;refine⟨_,(ae (d3 aA rfl (Ai rfl g.range (aa (aP gj (aP gj (gL T (pv 1)) (gL T (pD T (pv 0)))) ak) (aa (mX jO ak) (aa (mX jO ak) ag)))) (gN 2 nd) (ah (aR (tR iP (gL T (fI (pv 0) (cQ T) T.cM (hr.mono (by decide)) aq (aa (bF fO (pv 1) (bD (pv 2)) dO) (aa fB ag)))) ak) (ah (ay (bF fO (pv 1) (bD (pv 2)) dO))) aB)))
  (ah (ay gK))),?_⟩
 obtain⟨a,rfl,hi⟩:=hZ.ins;obtain⟨d,a',dx,fs,ea,h,f⟩:=id hZ;cases ea;obtain⟨v1,e1,n1⟩:=f.origin;rw[C5]at q;have hlo:=iJ hu;obtain⟨vs,⟨an,rfl,hr⟩,pr⟩:=id hN;obtain⟨vo,⟨ao,rfl,hro⟩,po⟩:=id n1;have l1:=Paired.length pr;have l2:=Paired.length po;walk_at "rd";refine fi (.inl hr) (a0 h T.cM T.eB e1 (fi (.inl hro) ?_));walk_at "rd";refine⟨_,_,_,_,rfl,Ij.neg (by lia) (by lia) (by lia) (by lia),?_⟩;have em:((vs.length:Int)-(vo.length:Int)-1 - -1).toNat=n.length-o.length:=by lia
 rw[em];have rev:∀i,i<n.length-o.length->((List.range (n.length-o.length)).reverse.map fun i=>n.drop i)[i]?=some (n.drop (n.length-o.length-1-i)):=fun i hi=>by
  rw[KW,List.getElem?_reverse (by simpa using hi),List.length_range,List.getElem?_range (by lia)];rfl
 refine z7 (IU H o xs n a an) ⟨none,rfl,ar.refl _,Kq _,fun j m z=>absurd z (Nat.not_lt_zero _)⟩ ?_ ?_
 .rintro i σ H' hi2 ⟨x,rfl,s1,_,hno⟩;have ei:((vs.length:Int)-(vo.length:Int)-1+(i:Nat) * -1)=((n.length-o.length-1-i:Nat):Int):=by lia
  rw[ei];walk_at "rd";have r1:=rev i hi2;generalize n.length-o.length-1-i=st at r1;refine⟨(hi _ (by decide +kernel) (by decide +kernel) (by decide +kernel)).same s1,?_⟩;refine jE (ar.rd s1 hr) fun v2 H2 s2 t2=>?_;rw[fq]at t2;have nm2:Nm H2 v2 (n.drop st):=⟨_,t2,Paired.dropP st (Paired.imp (fun _ _ r=>Bt.same r (s1.trans s2)) pr)⟩
  refine⟨.ref a,v2,o,xs,n.drop st,.NS,rfl,hZ.same (s1.trans s2),nm2,hlx,fun v3 H3 s3 hL=>?_⟩;obtain⟨l,ws,rfl,hl,hp⟩:=hL;refine cD (aY.of hl) ?_;have l3:=Paired.length hp;walk_at "rd";refine aS (fun hpos=>?_) fun hpos=>?_
  .refine jE (ar.rd ((s1.trans s2).trans s3) hr) fun v4 H4 s4 t4=>?_;rw[fq]at t4;have s04:=((s1.trans s2).trans s3).trans s4;have:=q v4 H4 s04;rw[uR hno r1 (by cases e:fF xs (n.drop st) .NS with
    |nil=>rw[e,J7]at l3;lia
    |cons _ _=>rfl)]at this
   exact this ⟨_,t4,Paired.dropP st (Paired.imp (fun _ _ r=>Bt.same r s04) pr)⟩
  .refine⟨_,rfl,(s1.trans s2).trans s3,hi2,fun j m hj hm=>?_⟩;rcases Nat.lt_or_ge j i with z|z
   .exact hno j m z hm
   .have:j=i:=by lia
    subst this;rw[r1]at hm;cases hm;cases e:fF xs (n.drop st) .NS with
    |nil=>rfl
    |cons _ _=>rw[e,JS]at l3;lia
 .rintro σ H' ⟨x,rfl,s1,_,hno⟩;walk_at "rd";have:=q .non H' s1;rw[List.find?_eq_none.mpr fun m hm=>by
   obtain⟨j,hj⟩:=List.getElem?_of_mem hm;have hl:=(JW.mp hj).1;rw[Kk,List.length_reverse,List.length_range]at hl;rw[hno j m hl hj];decide]at this
  exact this rfl
end
section
theorem qf{t:TS}(R:St->Hp->Prop)(h:∀σ' H',R σ' H'->D.nx σ' H')(k:∀N:St->Hp->Prop,(∀σ' H',R σ' H'->N σ' H')->t {D with nx:=N} σ H):t D σ H:=k _ h
noncomputable def JP(c:As)(H:Hp)(v:V):Option (List NM.PR)->Prop
 |some xs=>Ls (Rec c) H v xs
 |none=>v = .non
inductive BD (c:As) (vs:List V) (H:Hp) (Q:VK) (E:XK):Prop
 |mk (v u:V) (o:List (List Nat)) (xs:List NM.PR) (n:List (List Nat)) (_:vs=[v,u]) (_:Zn c H v o xs) (_:Nm H u n) (_:n.length<=100000) (_:Sn12.under n o=true) (_:(∃p∈xs,p.name=o)) (_:nW c H) (_:i6 H Q (JP c) (NM.here o xs n))
inductive JK (H:Hp) (o n:List (List Nat)) (a:Addr) (ts:List (List (List Nat))) (an:Addr) (σ:St) (H':Hp):Prop
 |mk (v2 i:_) (_:σ=[some (.ref a),some (.ref an),some v2,none]) (_:ar H H') (_:1<=i) (_:i<=n.length-o.length) (_:n.drop i∈ts) (_:(∀j,1<=j->j<i->n.drop j∉ts)) (_:Nm H' v2 (n.drop i))
inductive JJ (H:Hp) (o n:List (List Nat)) (a:Addr) (ts:List (List (List Nat))) (an:Addr) (m:Nat) (σ:St) (H':Hp):Prop
 |mk (v2 i:_) (_:m=n.length-i) (_:σ=[some (.ref a),some (.ref an),some v2,none]) (_:ar H H') (_:1<=i) (_:i<=n.length-o.length) (_:(∀j,1<=j->j<i->n.drop j∉ts)) (_:Nm H' v2 (n.drop i))
theorem gp(T:Top K mg base c):xt P w K mg base c.CZ "counting_records_or_none" 2 ["self","name"] (BD c):=by
 refine T.gA.cl ["self","name","above","star"] ?_;rintro nd _ _ _ _ _ H _ Q E hr ⟨v,u,o,xs,n,rfl,hZ,hN,hnl,hu,hhas,hst,q⟩;refine⟨_,(ae (aR (ie (uo (dZ hr) (pv 1) (pD T (pv 0)))) (ah (ay (fI (pv 0) (fT T) T.cM (hr.mono (by decide)) aq (aa (pv 1) ag)))) aB)
  (ae (sS 2 nd (bF fO (pv 1) (bD ak) dO))
  (ae (hU aA (ie (sV (dZ hr) (pv 2) (pD T (pv 0)))) (ah (sS 2 nd (bF fO (pv 2) (bD ak) dO))))
  (ae (sS 3 nd (aP lI (bM (aa (iD (v:=V.ref c.star) rfl T.ES rfl) ag)) (pv 2)))
  (ah (ay (iO (ie (uo (dZ hr) (pv 3) (pD T (pv 0)))) (fI (pv 0) (fT T) T.cM (hr.mono (by decide)) aq (aa (pv 3) ag)) gK))))))),?_⟩
 obtain⟨a,rfl,hi⟩:=hZ.ins;obtain⟨d,a',dx,fs,ea,h,f⟩:=id hZ;cases ea;obtain⟨e,kvs,ts,e3,he,dc,hts⟩:=f.there;obtain⟨vs,⟨an,rfl,hr⟩,pr⟩:=id hN;have hlo:=iJ hu;unfold NM.here at q;walk_at "rd";refine a0 h T.cM T.fQ e3 ?_;walk_at "rd";refine wK (.inl he) dc hN fun oo ho=>?_;rw[ho];by_cases hin:n∈ts
 .have ht:(NM.zn o xs).there n=true:=(iK hhas hu).mpr ((hts n).mp hin);rw[JX ht]at q;rw[KO hin];walk_at "rd";exact⟨hi _ (by decide +kernel) (by decide +kernel) (by decide +kernel),.ref a,.ref an,o,xs,n,rfl,hZ,hN,q⟩
 .have ht0:¬(NM.zn o xs).there n=true:=fun z=>hin ((hts n).mpr ((iK hhas hu).mp z));have htf:(NM.zn o xs).there n=false:=by simpa using ht0
  rw[JU ht0]at q;rw[Kl hin];walk_at "rd";have hno:n.length≠o.length:=fun z=>by
   have e0:=nG hu;rw[z,Nat.sub_self]at e0;refine hin ((hts n).mpr ⟨hu,.inl e0⟩)
  refine jE hr fun v1 H1 s1 t1=>?_;have ec:fK vs (some 1) none=vs.drop 1:=fq vs 1;rw[ec]at t1;walk_at "rd";refine qf (JK H o n a ts an) ?_ fun N hN2=>?_
  .rintro σ H2 ⟨v2,i,rfl,s2,hi1,hi2,hm,hnot,nm2⟩;have eab:(NM.zn o xs).above n=n.drop i:=Dh hu htf hi1 hi2 (fun j hj1 hj2=>by
    have:=hnot j hj1 hj2;cases hz:(NM.zn o xs).there (n.drop j) with
    |false=>rfl
    |true=>exact absurd ((hts _).mpr ((iK hhas (iT hu (by lia))).mp hz)) this) fun hlt=>(iK hhas (iT hu (by lia))).mpr ((hts _).mp hm)
   rw[eab]at q;have uu:Sn12.under ([42]::n.drop i) o=true:=oW (b:=n.drop i) ((dR _ _).mpr ⟨1,by simp,rfl⟩) (iT hu (by lia));walk_at "rd";obtain⟨ws,⟨aw,rfl,hw⟩,pw⟩:=id nm2;have lw:=Paired.length pw;rw[J4]at lw;refine⟨az (by decide),fun p3 hp3=>?_⟩;have s3:=aj (o:=.tup [.ref c.star]) hp3;refine wL (xs:=[.ref c.star]) (.inl af) (ar.rd s3 hw) (by simp) (by simp;lia) fun v4 H4 s4 t4=>?_;have nm4:Nm H4 v4 ([42]::n.drop i):=⟨_,t4,.cons ((hst.same ((s2.trans s3).trans s4)).bt) (Paired.imp (fun _ _ r=>Bt.same r (s3.trans s4)) pw)⟩
   have s04:=(s2.trans s3).trans s4;walk_at "rd";refine a0 (s04 _ _ h) T.cM T.fQ e3 ?_;walk_at "rd";refine wK (.inl (s04 _ _ he)) dc nm4 fun oo ho=>?_;rw[ho];by_cases hin2:([42]::n.drop i)∈ts
   .have ht:(NM.zn o xs).there ([42]::n.drop i)=true:=(iK hhas uu).mpr ((hts _).mp hin2);rw[JX ht]at q;rw[KO hin2];walk_at "rd";exact⟨(hi _ (by decide +kernel) (by decide +kernel) (by decide +kernel)).same s04,.ref a,v4,o,xs,_,rfl,hZ.same s04,nm4,fun v5 H5 s5 r5=>q v5 H5 (s04.trans s5) r5⟩
   .have ht:¬(NM.zn o xs).there ([42]::n.drop i)=true:=fun z=>hin2 ((hts _).mpr ((iK hhas uu).mp z));rw[JU ht]at q;rw[Kl hin2];walk_at "rd";exact q _ _ s04 rfl
  .refine oZ (JJ H o n a ts an) (n.length-1) ⟨v1,1,rfl,rfl,s1,JY _,by lia,fun j h1 h2=>by lia,⟨_,t1,Paired.dropP 1 (Paired.imp (fun _ _ r=>Bt.same r s1) pr)⟩⟩ ?_;rintro m σ H2 ⟨v2,i,rfl,rfl,s2,hi1,hi2,hnot,nm2⟩;walk_at "rd";refine a0 (s2 _ _ h) T.cM T.fQ e3 ?_;walk_at "rd";refine wK (.inl (s2 _ _ he)) dc nm2 fun oo ho=>?_;rw[ho];by_cases hin2:n.drop i∈ts
   .rw[KO hin2];walk_at "rd";exact hN2 _ _ ⟨v2,i,rfl,s2,hi1,hi2,hin2,hnot,nm2⟩
   .rw[Kl hin2];walk_at "rd";have hne:i≠n.length-o.length:=fun z=>hin2 ((hts _).mpr ⟨iT hu hi2,.inl (by rw[z,nG hu])⟩);obtain⟨ws,⟨aw,rfl,hw⟩,pw⟩:=id nm2;refine⟨fun σ' H'=>∃v2 i',i'=i+1/\σ'=[some (.ref a),some (.ref an),some v2,none]/\ar H H'/\Nm H' v2 (n.drop (i+1)),?_,?_⟩
    .rintro σ' H' ⟨v3,_,rfl,rfl,s3,nm3⟩;refine⟨n.length-(i+1),by lia,v3,i+1,rfl,rfl,s3,by lia,by lia,fun j h1 h2=>?_,nm3⟩;rcases Nat.lt_or_ge j i with z|z
     .exact hnot j h1 z
     .have:j=i:=by lia
      subst this;exact hin2
    .refine jE hw fun v3 H3 s3 t3=>?_;have ec2:fK ws (some 1) none=ws.drop 1:=fq ws 1;rw[ec2]at t3;refine⟨v3,_,rfl,rfl,s2.trans s3,⟨_,t3,?_⟩⟩;rw[<-List.drop_drop];exact Paired.dropP 1 (Paired.imp (fun _ _ r=>Bt.same r s3) pw)
inductive y9 (c:As) (vs:List V) (H:Hp) (Q:VK) (E:XK):Prop
 |mk (p dx:Addr) (fs:List (Str×V)) (u:V) (e:Addr) (kvs:List (KD×V)) (ts:List (List (List Nat))) (n o:List (List Nat)) (_:vs=[.ref p,u]) (_:H p=some (.ins c.CZ dx fs)) (_:fs.lookup ("there":Str)=some (.ref e)) (_:H e=some (.dT kvs)) (_:Dc kN (fun _ _=>True) kvs ts) (_:Nm H u n) (_:Sn12.under n o=true) (_:o∈ts) (_:ts.length+n.length<16777216) (_:∀H' kvs' j,j<=n.length-o.length->n.drop j∈ts->H' e=some (.dT kvs')->Dc kN (fun _ _=>True) kvs' (ts++(List.range j).map fun i=>n.drop i)->ar (wo H e) H'->Q .non H')
inductive JI (H:Hp) (p:Addr) (u:V) (e:Addr) (ts:List (List (List Nat))) (n o:List (List Nat)) (m:Nat) (σ:St) (H':Hp):Prop
 |mk (v2 i kvs':_) (_:m=n.length-i) (_:σ=[some (.ref p),some u,some v2]) (_:ar (wo H e) H') (_:i<=n.length-o.length) (_:H' e=some (.dT kvs')) (_:Dc kN (fun _ _=>True) kvs' (ts++(List.range i).map fun i=>n.drop i)) (_:Nm H' v2 (n.drop i))
theorem mB(T:Top K mg base c):xt P w K mg base c.CZ "mark_there" 1 ["self","name"] (y9 c):=by
 refine T.nR.cl ["self","name","left"] ?_;rintro nd _ _ _ _ _ H _ Q E hr ⟨p,dx,fs,u,e,kvs,ts,n,o,rfl,hp,e3,he,dc,hN,hu,hot,hlen,q⟩;refine⟨_,(ae (sS 2 nd (pv 1))
  (ah (hU aA (ie (sV (dZ hr) (pv 2) (pD T (pv 0)))) (ae (ui (dZ hr) (pD T (pv 0)) (pv 2) mY rfl)
  (ah (sS 2 nd (bF fO (pv 2) (bD ak) dO))))))),?_⟩
 have hlo:=iJ hu;have hpe:p≠e:=bH hp he (by simp);walk_at "rd";refine oZ (JI H p u e ts n o) n.length ⟨u,0,kvs,rfl,rfl,fD,Kq _,he,by rw[List.range_zero,Lh,Kw];exact dc,hN⟩ ?_;rintro m σ H2 ⟨v2,i,kvs',rfl,rfl,s2,hi2,he2,dc2,nm2⟩;have hp2:H2 p=some (.ins c.CZ dx fs):=s2 _ _ (by rw[aZ hpe];exact hp);walk_at "rd";refine a0 hp2 T.cM T.fQ e3 ?_;walk_at "rd";refine wK (.inl he2) dc2 nm2 fun oo ho=>?_;rw[ho];by_cases hin:n.drop i∈ts++(List.range i).map fun i=>n.drop i
 .rw[KO hin];walk_at "rd";refine q _ _ i hi2 ?_ he2 dc2 s2;rcases Kj.mp hin with z|z
  .exact z
  .obtain⟨j,hj,ej⟩:=KZ.mp z;have hj:j<i:=by simpa using hj
   have:=congrArg List.length ej;rw[J4,J4]at this;lia
 .rw[Kl hin];walk_at "rd";have hne:i≠n.length-o.length:=fun z=>hin (Kz _ (by rw[z,nG hu];exact hot));have hl2:=dc2.len;rw[JT,Kk,List.length_range]at hl2;refine⟨fun σ' H'=>∃v3 kvs3,σ'=[some (.ref p),some u,some v3]/\ar (wo H e) H'/\H' e=some (.dT kvs3)/\Dc kN (fun _ _=>True) kvs3 (ts++(List.range (i+1)).map fun i=>n.drop i)/\Nm H' v3 (n.drop (i+1)),?_,?_⟩
  .rintro σ' H' ⟨v3,kvs3,rfl,s3,he3,dc3,nm3⟩;exact⟨n.length-(i+1),by lia,v3,i+1,kvs3,rfl,rfl,s3,by lia,he3,dc3,nm3⟩
  .refine a0 hp2 T.cM T.fQ e3 ?_;walk_at "rd";obtain⟨_,dc3⟩:=dc2.new (v:=.bl true) gu hin True.intro;refine uQ he2 nm2 (by lia) ?_;have tk:Tk H2 (upd H2 e (.dT (putK kvs' (kN (n.drop i)) (.bl true)))):=Tk.upd he2 (by simp) (by simp);obtain⟨ws,⟨aw,rfl,hw⟩,pw⟩:=tk.nm nm2;walk_at "rd";refine jE hw fun v3 H3 s3 t3=>?_;have ec2:fK ws (some 1) none=ws.drop 1:=fq ws 1;rw[ec2]at t3;refine⟨v3,_,rfl,(xF s2).trans s3,s3 _ _ af,?_,⟨_,t3,?_⟩⟩
   .rw[List.range_succ,List.map_append,<-Kx];exact dc3
   .rw[<-List.drop_drop];exact Paired.dropP 1 (Paired.imp (fun _ _ r=>Bt.same r s3) pw)
end
section
noncomputable def Rk(H H':Hp):Prop:=∀b o,H b=some o->(∀xs,o ≠ .lst xs)->(∀kvs,o ≠ .dT kvs)->H' b=some o
theorem uc(s:ar H H'):Rk H H':=fun b o e _ _=>s b o e
theorem Rk.trans(a:Rk H H1)(b:Rk H1 H2):Rk H H2:=fun x o e n m=>b x o (a x o e n m) n m
theorem BI{o:HO}(h:H p=some (.lst xs)):Rk H (upd H p o):=fun b u e n _=>by
 rw[ai]
 .exact e
 .rintro rfl;rw[h]at e;exact n xs (Ku e).symm
theorem Fs{o:HO}(h:H p=some (.dT kvs)):Rk H (upd H p o):=fun b u e _ n=>by
 rw[ai]
 .exact e
 .rintro rfl;rw[h]at e;exact n kvs (Ku e).symm
theorem Fq(h:H p=some (.dT kvs))(s:ar (wo H p) H'):Rk H H':=fun b u e _ n=>s b u (by
 rw[aZ]
 .exact e
 .rintro rfl;rw[h]at e;exact n kvs (Ku e).symm)
theorem Rk.tk(k:Rk H H'):Tk H H':=⟨fun b xs e=>k b _ e (by simp) (by simp),fun b o xs e=>k b _ e (by simp) (by simp)⟩
theorem Rec.rk{p:NM.PR}(h:Rec c H v p)(s:Rk H H'):Rec c H' v p:=by
 obtain⟨a,dx,fs,rfl,h,f⟩:=h;obtain⟨⟨v1,e1,n1⟩,k,nu,t,⟨v2,e2,n2⟩,⟨v3,e3,n3⟩,⟨v4,e4,n4⟩⟩:=f;exact⟨a,dx,fs,rfl,s _ _ h (by simp) (by simp),⟨v1,e1,s.tk.nm n1⟩,k,nu,t,⟨v2,e2,s.tk.bt n2⟩,⟨v3,e3,s.tk.ns n3⟩,⟨v4,e4,s.tk.bt n4⟩⟩
theorem Paired.impMem{α β:Type}{R S:α->β->Prop}:∀{as:List α} {bs:List β},Paired R as bs->(∀a b,a∈as->b∈bs->R a b->S a b)->Paired S as bs
 |_,_,.nil,_=>.nil
 |_,_,.cons r t,i=>.cons (i _ _ (by simp) (by simp) r) (Paired.impMem t fun a b ha hb=>i a b (J0 _ ha) (J0 _ hb))
theorem Paired.memL{α β:Type}{R:α->β->Prop}:∀{as:List α} {bs:List β} {a:α},Paired R as bs->a∈as->∃b∈bs,R a b
 |_,_,_,.nil,h=>nomatch h
 |_,_,a,.cons r t,h=>by
  rcases Kg.mp h with rfl|h
  .exact⟨_,J8,r⟩
  .obtain⟨b,hb,q⟩:=Paired.memL t h;exact⟨b,J0 _ hb,q⟩
section
variable{κ:Type} [DecidableEq κ]
theorem p9:∀{kvs:List (κ×V)} {k:κ} {v:V},d9 kvs k=some v->(k,v)∈kvs
 |[],_,_,h=>nomatch h
 |p::r,k,v,h=>by
  by_cases e:p.1=k
  .rw[d7 e]at h;cases h;subst e;exact J8
  .rw[dU e]at h;exact J0 _ (p9 h)
theorem zg:∀{kvs:List (κ×V)} {a b:κ×V},(kvs.map (·.2)).Nodup->a∈kvs->b∈kvs->a.2=b.2->a=b
 |[],_,_,_,h,_,_=>nomatch h
 |p::r,a,b,nd,ha,hb,e=>by
  rw[J5,K9]at nd;rcases Kg.mp ha with rfl|ha2
  .rcases Kg.mp hb with rfl|hb2
   .rfl
   .exact absurd (by rw[e];exact List.mem_map_of_mem hb2) nd.1
  .rcases Kg.mp hb with rfl|hb2
   .exact absurd (by rw[<-e];exact List.mem_map_of_mem ha2) nd.1
   .exact zg nd.2 ha2 hb2 e
theorem zD:∀{kvs:List (κ×V)} {a b:κ×V},(kvs.map (·.1)).Nodup->a∈kvs->b∈kvs->a.1=b.1->a=b
 |[],_,_,_,h,_,_=>nomatch h
 |p::r,a,b,nd,ha,hb,e=>by
  rw[J5,K9]at nd;rcases Kg.mp ha with rfl|ha2
  .rcases Kg.mp hb with rfl|hb2
   .rfl
   .exact absurd (by rw[e];exact List.mem_map_of_mem hb2) nd.1
  .rcases Kg.mp hb with rfl|hb2
   .exact absurd (by rw[<-e];exact List.mem_map_of_mem ha2) nd.1
   .exact zD nd.2 ha2 hb2 e
theorem Dc.vals{δ:Type}{key:δ->κ}{S:V->δ->Prop}:∀{kvs:List (κ×V)} {ds:List δ},Dc key S kvs ds->Paired S (kvs.map (·.2)) ds
 |_,_,.nil=>.nil
 |_,_,.cons r t=>.cons r.2 (Dc.vals t)
theorem Dc.keys{δ:Type}{key:δ->κ}{S:V->δ->Prop}:∀{kvs:List (κ×V)} {ds:List δ},Dc key S kvs ds->kvs.map (·.1)=ds.map key
 |_,_,.nil=>rfl
 |_,_,.cons r t=>by rw[J5,J5,r.1,Dc.keys t]
end
theorem md{α β:Type}{f:α->β}(inj:∀a b,f a=f b->a=b):∀{l:List α},l.Nodup->(l.map f).Nodup
 |[],_=>List.nodup_nil
 |a::l,h=>by
  rw[K9]at h;rw[J5,K9];refine⟨fun z=>?_,md inj h.2⟩;obtain⟨b,hb,e⟩:=KZ.mp z;rw[inj _ _ e]at hb;exact h.1 hb
theorem qQ{α:Type}{l:List α}{a:α}(h:l.Nodup)(n:a∉l):(l++[a]).Nodup:=by
 rw[List.nodup_append];refine⟨h,by simp,fun x hx y hy e=>?_⟩;have:y=a:=by simpa using hy
 subst this;subst e;exact n hx
structure By (c:As) (H0 H:Hp) (xs:List NM.PR) (kvs:List (KD×V)) (ns:List (List (List Nat))):Prop where
 dc:Dc kN (fun v n=>∃l vs,v = .ref l/\H0 l=none/\H l=some (.lst vs)/\Paired (Rec c H) vs (NM.own xs n)) kvs ns
 mem:∀n,n∈ns↔∃p∈xs,p.name=n
 vnd:(kvs.map (·.2)).Nodup
 nnd:ns.Nodup
theorem By.nil:By c H0 H [] [] []:=⟨.nil,fun n=>⟨fun z=>(nomatch z),fun⟨_,z,_⟩=>(nomatch z)⟩,List.nodup_nil,List.nodup_nil⟩
theorem By.move{xs:List NM.PR}{ns:List (List (List Nat))}(b:By c H0 H xs kvs ns)(k:Rk H H')(hl:∀l vs,H l=some (.lst vs)->H' l=some (.lst vs)):By c H0 H' xs kvs ns :=
 ⟨b.dc.imp fun v n ⟨l,vs,e,h0,h1,p⟩=>⟨l,vs,e,h0,hl _ _ h1,Paired.imp (fun _ _ r=>Rec.rk r k) p⟩,b.mem,b.vnd,b.nnd⟩
theorem By.old{xs:List NM.PR}{ns:List (List (List Nat))}{x:V}{p:NM.PR}(b:By c H0 H xs kvs ns)(hn:p.name∈ns)(hr:Rec c H x p):
  ∃l vs,d9 kvs (kN p.name)=some (.ref l)/\H0 l=none/\H l=some (.lst vs)/\vs.length<=xs.length/\By c H0 (upd H l (.lst (vs++[x]))) (xs++[p]) kvs ns:=by
 obtain⟨v,ev,l,vs,rfl,h0,hl,hp⟩:=b.dc.some_of gu hn;have hlen:vs.length<=xs.length:=by rw[Paired.length hp];exact kB
 have rk:Rk H (upd H l (.lst (vs++[x]))):=BI hl;refine⟨l,vs,ev,h0,hl,hlen,Paired.impMem b.dc ?_,fun n=>?_,b.vnd,b.nnd⟩
 .rintro⟨kk,u⟩ m hk hm ⟨e1,l',vs',e2,h0',hl',hp'⟩;dsimp only at e1 e2;subst e1 e2;refine⟨rfl,?_⟩;dsimp only;rw[qE];by_cases hmn:p.name=m
  .subst hmn;have:=zD (by rw[b.dc.keys];exact md gu b.nnd) hk (p9 ev) rfl;cases this;rw[hl]at hl';cases hl';rw[JX rfl];exact⟨l,vs++[x],rfl,h0,af,Paired.snoc (Paired.imp (fun _ _ r=>Rec.rk r rk) hp') (hr.rk rk)⟩
  .rw[JU hmn,Kw];have hne:l'≠l:=fun z=>by
    subst z;have:=zg b.vnd hk (p9 ev) rfl;injection this with e3 e4
    exact hmn (oG e3).symm
   exact⟨l',vs',rfl,h0',by rw[ai hne];exact hl',Paired.imp (fun _ _ r=>Rec.rk r rk) hp'⟩
 .rw[b.mem];constructor
  .rintro⟨q,hq,e⟩;exact⟨q,Kz _ hq,e⟩
  .rintro⟨q,hq,e⟩;rcases Kj.mp hq with hq|hq
   .exact⟨q,hq,e⟩
   .obtain rfl:q=p:=by simpa using hq
    rw[<-e];exact(b.mem _).mp hn
theorem By.new{xs:List NM.PR}{ns:List (List (List Nat))}{x:V}{p:NM.PR}{l:Addr}(b:By c H0 H xs kvs ns)(hn:p.name∉ns)(hr:Rec c H2 x p)(h0:H0 l=none)(hl:H l=none)(h2:H2 l=some (.lst [x]))(rk:Rk H H2)(hls:∀l' vs,H l'=some (.lst vs)->H2 l'=some (.lst vs)):d9 kvs (kN p.name)=none/\By c H0 H2 (xs++[p]) (kvs++[(kN p.name,.ref l)]) (ns++[p.name]):=by
 have hown:NM.own xs p.name=[]:=qF fun q hq z=>hn ((b.mem _).mpr ⟨q,hq,z⟩);refine⟨b.dc.none_of gu hn,Paired.snoc (Paired.impMem b.dc ?_) ⟨rfl,l,[x],rfl,h0,h2,?_⟩,fun n=>?_,?_,qQ b.nnd hn⟩
 .rintro⟨kk,u⟩ m hk hm ⟨e1,l',vs',e2,h0',hl',hp'⟩;refine⟨e1,l',vs',e2,h0',hls _ _ hl',?_⟩;rw[qE,JU (fun z=>hn (by rw[z];exact hm)),Kw];exact Paired.imp (fun _ _ r=>Rec.rk r rk) hp'
 .rw[qE,hown,JX rfl];exact .cons hr .nil
 .rw[Kj,b.mem];constructor
  .rintro(⟨q,hq,e⟩|h)
   .exact⟨q,Kz _ hq,e⟩
   .exact⟨p,by simp,(by simpa using h:n=p.name).symm⟩
  .rintro⟨q,hq,e⟩;rcases Kj.mp hq with hq|hq
   .exact .inl ⟨q,hq,e⟩
   .obtain rfl:q=p:=by simpa using hq
    exact .inr (by simp[e])
 .rw[List.map_append];refine qQ b.vnd fun z=>?_;obtain⟨kv,hk,e⟩:=KZ.mp z;obtain⟨m,_,_,l',vs',e2,_,hl',_⟩:=Paired.memL b.dc hk;rw[e2]at e;injection e with e
  rw[e,hl]at hl';cases hl'
inductive Hu (c:As) (vs:List V) (H:Hp) (Q:VK) (E:XK):Prop
 |mk (p dx l:Addr) (v1:V) (ws:List V) (o:List (List Nat)) (xs:List NM.PR) (_:vs=[.ref p,v1,.ref l]) (_:H p=some (.ins c.CZ dx [])) (_:Nm H v1 o) (_:H l=some (.lst ws)) (_:Paired (Rec c (wo H p)) ws xs) (_:(∀x∈xs,Sn12.under x.name o=true/\x.name.length<=255)) (_:xs.length<=40000) (_:∀H' d,Ha c H' (.ref p) d o xs->H d=none->ar (wo H p) H'->Q .non H')
inductive Jz (c:As) (H:Hp) (p dx l:Addr) (o:List (List Nat)) (xs:List NM.PR) (d e b:Addr) (fs:List (Str×V)) (i:Nat) (σ:St) (H':Hp):Prop
 |mk (x kvs ns kvs2 ts:_) (_:σ=[some (.ref p),some (.ref b),some (.ref l),x]) (_:ar (wo H p) H') (_:H' p=some (.ins c.CZ dx fs)) (_:H' d=some (.dT kvs)) (_:By c H H' (xs.take i) kvs ns) (_:H' e=some (.dT kvs2)) (_:Dc kN (fun _ _=>True) kvs2 ts) (_:(∀m,m∈ts↔lQ o (xs.take i) m)) (_:ts.length<=1+255*i) (_:kvs.length<=i)
theorem ox(T:Top K mg base c):E3 P w K mg base c.CZ 2 ["self","origin","records"] (Hu c):=by
 refine T.GF.cl ["self","origin","records","record"] ?_;rintro nd _ _ _ _ _ H _ Q E hr ⟨p,dx,l,v1,ws,o,xs,rfl,hp,hN,hl,hR,hxs,hlx,q⟩;refine⟨_,(ae (cK (pv 0) (pv 1) rfl)
  (ae (cK (pv 0) kA rfl)
  (ae (cK (pv 0) (BZ (dZ hr) (pv 1) mY) rfl)
  (ah (d3 aA rfl (cG (pv 2)) (gN 3 nd) (ae (aM (fo Ka KJ KI fz (pY (dZ hr) (pD T (pv 0)) (pD T (pv 3)) (bN ag) ⟨rfl,rfl,rfl,rfl⟩) (aa (pv 3) ag)))
  (ah (aM (fI (pv 0) (mB T) T.cM (hr.mono (by decide)) aq (aa (pD T (pv 3)) ag)))))))))),?_⟩
 have hlp:l≠p:=bH hl hp (by simp);walk_at "rd";refine fb hp T.cM T.eB (by show 0<1000;decide) ?_;walk_at "rd";intro d hd;have hdp:d≠p:=fun z=>by subst z;rw[af]at hd;cases hd
 have hd0:H d=none:=by rw[ai hdp]at hd;exact hd
 refine fb (by rw[ai (Ne.symm hdp)];exact af) T.cM T.gw (by show 1<1000;decide) ?_;generalize hH1:upd (upd (upd H p _) d (.dT [])) p _=H1;have h1p:H1 p=some (.ins c.CZ dx (fm ("by_name":Str) (.ref d) (fm ("origin":Str) v1 []))):=by rw[<-hH1,af]
 have h1d:H1 d=some (.dT []):=by rw[<-hH1,ai hdp,af]
 have h1o:∀b,b≠p->b≠d->H1 b=H b:=fun b h1 h2=>by rw[<-hH1,ai h1,ai h2,ai h1]
 have s1:ar (wo H p) H1:=fun b ob e=>by
  by_cases z:b=p
  .subst z;rw[cF]at e;cases e
  .rw[aZ z]at e;rw[h1o b z fun z2=>by subst z2;rw[hd0]at e;cases e];exact e
 clear hH1;walk_at "rd";intro e he;have s2:=aj (o:=.dT []) he;have hN1:Nm (wo H p) v1 o:=by
  obtain⟨vs,⟨a,rfl,r⟩,pr⟩:=hN;have key:∀{a:Addr} {xs:List V},Rd H a (.tup xs)->Rd (wo H p) a (.tup xs):=fun {a xs} r=>by
   rcases r with r|⟨ob,r⟩
   .exact .inl (by rw[aZ (bH r hp (by simp))];exact r)
   .exact .inr ⟨ob,by rw[aZ (bH r hp (by simp))];exact r⟩
  exact⟨vs,⟨a,rfl,key r⟩,Paired.imp (fun v b ⟨a,ea,r⟩=>⟨a,ea,key r⟩) pr⟩
 obtain⟨b,rfl,kb⟩:=(hN1.same (s1.trans s2)).kat;refine⟨af,kN o,kb,?_⟩;rw[fN];have hep:e≠p:=fun z=>by subst z;rw[h1p]at he;cases he
 have hed:e≠d:=fun z=>by subst z;rw[h1d]at he;cases he
 have he0:H e=none:=by rw[<-h1o e hep hed];exact he
 refine fb (by rw[ai (Ne.symm hep)];exact h1p) T.cM T.fQ (by show 2<1000;decide) ?_;generalize hH2:upd (upd H1 e (.dT [(kN o,.bl true)])) p _=H2;generalize hfs:fm ("there":Str) (V.ref e) (fm ("by_name":Str) (.ref d) (fm ("origin":Str) (V.ref b) []))=fs at hH2;have h2p:H2 p=some (.ins c.CZ dx fs):=by rw[<-hH2,af]
 have h2d:H2 d=some (.dT []):=by rw[<-hH2,ai hdp,ai (Ne.symm hed)];exact h1d
 have h2e:H2 e=some (.dT [(kN o,.bl true)]):=by rw[<-hH2,ai hep,af]
 have s02:ar (wo H p) H2:=fun x ob ex=>by
  have hxp:x≠p:=fun z=>by subst z;rw[cF]at ex;cases ex
  rw[<-hH2,ai hxp,ai (aH (s1 _ _ ex) he)];exact s1 _ _ ex
 clear hH2;have lk:∀(g f:Str) (v:V) (fs:List (Str×V)),¬g=f->(fm f v fs).lookup g=fs.lookup g:=fun g f v fs h=>by rw[aC,JU h]
 have l0:∀(f:Str) (v:V) (fs:List (Str×V)),(fm f v fs).lookup f=some v:=fun f v fs=>by rw[aC,JX rfl]
 have f1:fs.lookup ("origin":Str)=some (.ref b):=by rw[<-hfs,lk _ _ _ _ (by decide +kernel),lk _ _ _ _ (by decide +kernel),l0]
 have f2:fs.lookup ("by_name":Str)=some (.ref d):=by rw[<-hfs,lk _ _ _ _ (by decide +kernel),l0]
 have f3:fs.lookup ("there":Str)=some (.ref e):=by rw[<-hfs,l0]
 have f4:∀f:Str,f≠"origin"->f≠"by_name"->f≠"there"->fs.lookup f=none:=fun f a1 a2 a3=>by rw[<-hfs,lk _ _ _ _ a3,lk _ _ _ _ a2,lk _ _ _ _ a1];rfl
 clear hfs;walk_at "rd";refine⟨⟨ws,aY.of (s02 _ _ (by rw[aZ hlp];exact hl))⟩,?_⟩;refine gW (H0:=wo H p) (Walk.l (aY.of (by rw[aZ hlp];exact hl))) (Jz c H p dx l o xs d e b fs)
  ⟨none,[],[],[(kN o,.bl true)],[o],rfl,s02,h2p,h2d,By.nil,h2e,.cons ⟨rfl,True.intro⟩ .nil,fun m=>wB m,JY _,JY _⟩ (fun i σ H' ⟨_,_,_,_,_,_,s,_,_,_,_,_,_,_,_⟩=>s) ?_ ?_
 .rintro i x σ H' hx ⟨x0,kvs,ns,kvs2,ts,rfl,s3,h3p,h3d,by3,h3e,dc3,ht3,hlen3,hkl⟩;obtain⟨pr,hpr,hrec0⟩:=Paired.get hR hx;have hrec:Rec c H' x pr:=hrec0.same s3;have hil:i<xs.length:=(JW.mp hpr).1;have htk:xs.take (i+1)=xs.take i++[pr]:=by rw[List.take_succ,hpr];rfl
  have hprm:pr∈xs:=Kr hpr;obtain⟨hu,hnl⟩:=hxs pr hprm;obtain⟨ra,rdx,rfs,rfl,rh,rf⟩:=id hrec;obtain⟨vn,en,nn⟩:=rf.name;walk_at "rd";refine a0 h3p T.cM T.gw f2 ?_;walk_at "rd";refine⟨.inr ⟨kvs,.inl h3d⟩,a0 rh T.aN T.f6 en ⟨az (by decide),fun l0' hl0=>?_⟩⟩;have s4:=aj (o:=.lst []) hl0;obtain⟨bn,rfl,kbn⟩:=(nn.same s4).kat;have fin:∀(H5:Hp) (kvs':List (KD×V)) (ns':List (List (List Nat))),ar (wo H p) H5->H5 p=some (.ins c.CZ dx fs)->H5 d=some (.dT kvs')->By c H H5 (xs.take i++[pr]) kvs' ns'->H5 e=some (.dT kvs2)->Rec c H5 (.ref ra) pr->kvs'.length<=i+1 ->
    jg c.CZ ("mark_there":Str) H5 p/\(dM K ("name":Str) H5 ra fun x H6=>y9 c [.ref p,x] H6 (fun _ H7=>Jz c H p dx l o xs d e b fs (i+1) [some (V.ref p),some (V.ref b),some (V.ref l),some (V.ref ra)] H7) E):=by
   intro H5 kvs' ns' s5 h5p h5d by5 h5e hrec5 hkl5;refine⟨⟨dx,fs,h5p,f4 _ (by decide +kernel) (by decide +kernel) (by decide +kernel)⟩,?_⟩;obtain⟨ra',rdx',rfs',era,rh',rf'⟩:=hrec5;cases era;obtain⟨vn',en',nn'⟩:=rf'.name;refine a0 rh' T.aN T.f6 en' ?_;refine⟨p,dx,fs,vn',e,kvs2,ts,pr.name,o,rfl,h5p,f3,h5e,dc3,nn',hu,(ht3 o).mpr ⟨mn o,.inl rfl⟩,by lia,fun H7 kvs7 j hj hin h7e dc7 s7=>?_⟩;have rk7:=Fq h5e s7;have hde:d≠e:=Ne.symm hed;refine⟨_,kvs',ns',kvs7,_,rfl,?_,s7 _ _ (by rw[aZ (Ne.symm hep)];exact h5p),s7 _ _ (by rw[aZ hde];exact h5d),by rw[htk];exact by5.move rk7 fun l' vs' hl'=>s7 _ _ (by rw[aZ (bH hl' h5e (by simp))];exact hl'),h7e,dc7,fun m=>by rw[htk];exact uO ht3 hu hj hin m,?_,hkl5⟩
   .intro y ob ey;refine s7 _ _ ?_;rw[aZ (fun z=>by subst z;have:=s5 _ _ ey;rw[h5e]at this;cases this;rw[aZ hep]at ey;rw[he0]at ey;cases ey)];exact s5 _ _ ey
   .rw[JT,Kk,List.length_range];have:=iJ hu;lia
  by_cases hm:pr.name∈ns
  .obtain⟨l1,vs1,ev,h0,hl1,hlen1,by5⟩:=by3.old hm hrec;refine .inr ⟨kvs,kN pr.name,bn,s4 _ _ h3d,rfl,kbn,gZ (by lia),fun x1 ex1=>?_,fun z=>by rw[ev]at z;cases z⟩;rw[ev]at ex1;cases ex1;have hl1':=s4 _ _ hl1;refine⟨oX hl1',?_⟩;walk_at "rd";refine goApp hl1' (by rw[Kf]at hlen1;lia) ?_;have hne:l0'≠l1:=fun z=>by subst z;rw[hl0]at hl1;cases hl1
   have ecomm:upd (upd H' l0' (.lst [])) l1 (.lst (vs1++[V.ref ra]))=upd (upd H' l1 (.lst (vs1++[V.ref ra]))) l0' (.lst []):=by
    funext y;by_cases a1:y=l1
    .subst a1;rw[af,ai (Ne.symm hne),af]
    .by_cases a2:y=l0'
     .subst a2;rw[ai a1,af,af]
     .rw[ai a1,ai a2,ai a2,ai a1]
   rw[ecomm];have hl05:(upd H' l1 (.lst (vs1++[V.ref ra]))) l0'=none:=by rw[ai hne];exact hl0
   have s5:=aj (o:=.lst []) hl05;have rk5:Rk H' (upd H' l1 (.lst (vs1++[V.ref ra]))):=BI hl1;refine fin _ kvs ns ?_ (s5 _ _ (rk5 _ _ h3p (by simp) (by simp))) (s5 _ _ ?_) (by5.move (uc s5) fun l' vs' hl'=>s5 _ _ hl') (s5 _ _ ?_) ((hrec.rk rk5).same s5) (by lia)
   .intro y ob ey;refine s5 _ _ ?_;rw[ai (fun z=>by subst z;have hyp:y≠p:=(fun z2=>by subst z2;rw[cF]at ey;cases ey);rw[aZ hyp,h0]at ey;cases ey)];exact s3 _ _ ey
   .rw[ai (bH h3d hl1 (by simp))];exact h3d
   .rw[ai (bH h3e hl1 (by simp))];exact h3e
  .have hl00:H l0'=none:=by
    have hlp0:l0'≠p:=fun z=>by subst z;rw[h3p]at hl0;cases hl0
    cases hz:H l0' with
    |none=>rfl
    |some ob =>
     have:=s3 l0' ob (by rw[aZ hlp0];exact hz);rw[hl0]at this;cases this
   have evn:=by3.dc.none_of gu hm;refine .inr ⟨kvs,kN pr.name,bn,s4 _ _ h3d,rfl,kbn,gZ (by lia),fun x1 ex1=>(by rw[evn]at ex1;cases ex1),fun _=>?_⟩;have hdl:d≠l0':=fun z=>by subst z;rw[h3d]at hl0;cases hl0
   have hl4:(upd (upd H' l0' (.lst [])) d (.dT (putK kvs (kN pr.name) (.ref l0')))) l0'=some (.lst []):=by rw[ai (Ne.symm hdl),af]
   refine⟨oX hl4,?_⟩;walk_at "rd";refine goApp hl4 (by decide) ?_;rw[Lg];generalize hH5:upd (upd (upd H' l0' (.lst [])) d (.dT (putK kvs (kN pr.name) (.ref l0')))) l0' (.lst [V.ref ra])=H5;have h5o:∀y,y≠d->y≠l0'->H5 y=H' y:=fun y a1 a2=>by rw[<-hH5,ai a2,ai a1,ai a2]
   have h5l:H5 l0'=some (.lst [V.ref ra]):=by rw[<-hH5,af]
   have h5d:H5 d=some (.dT (putK kvs (kN pr.name) (.ref l0'))):=by rw[<-hH5,ai hdl,af]
   clear hH5;have rk5:Rk H' H5:=fun y ob ey n1 n2=>by
    rw[h5o y (fun z=>by subst z;rw[h3d]at ey;cases ey;exact n2 _ rfl) (fun z=>by subst z;rw[hl0]at ey;cases ey)];exact ey
   have hls5:∀l' vs,H' l'=some (.lst vs)->H5 l'=some (.lst vs):=fun l' vs hl'=>by
    rw[h5o l' (bH hl' h3d (by simp)) (aH hl' hl0)];exact hl'
   obtain⟨_,by5⟩:=by3.new hm (hrec.rk rk5) hl00 hl0 h5l rk5 hls5;rw[qA _ evn]at h5d;refine fin H5 _ _ ?_ (rk5 _ _ h3p (by simp) (by simp)) h5d by5 ?_ (hrec.rk rk5) (by rw[JT];show kvs.length+1<=i+1;lia)
   .intro y ob ey;have hyp:y≠p:=fun z2=>by subst z2;rw[cF]at ey;cases ey
    have ey':=s3 _ _ ey;rw[aZ hyp]at ey;rw[h5o y (fun z=>by subst z;rw[hd0]at ey;cases ey) (fun z=>by subst z;rw[hl00]at ey;cases ey)];exact ey'
   .rw[h5o e hed (fun z=>by subst z;rw[h3e]at hl0;cases hl0)];exact h3e
 .rintro σ H' ⟨x0,kvs,ns,kvs2,ts,rfl,s3,h3p,h3d,by3,h3e,dc3,ht3,hlen3,hkl⟩;have hfull:xs.take ws.length=xs:=by rw[Paired.length hR];exact List.take_length
  rw[hfull]at by3 ht3;refine q H' d ⟨p,dx,fs,rfl,h3p,⟨_,f1,hN1.same s3⟩,f2,⟨kvs,ns,h3d,by3.dc.imp fun v n ⟨l',vs',e1,_,e2,e3⟩=>⟨l',vs',e1,e2,e3⟩,by3.mem⟩,⟨e,kvs2,ts,f3,h3e,dc3,ht3⟩,f4⟩ hd0 s3
end
section
inductive Hv (c:As) (vs:List V) (H:Hp) (Q:VK) (E:XK):Prop
 |mk (l:Addr) (ws:List V) (xs:List NM.PR) (_:vs=[.ref l]) (_:H l=some (.lst ws)) (_:Paired (Rec c H) ws xs) (_:xs.length<=70000) (_:i6 H Q (Ls (Rec c)) (xs.foldl aF []))
theorem Aq{α:Type}[DecidableEq α]{xs:List α}{i:Nat}{x:α}(h:xs[i]?=some x):(xs.take (i+1)).foldl aF []=aF ((xs.take i).foldl aF []) x:=by
 rw[List.take_succ,h,List.foldl_append];rfl
theorem ur{α:Type}[DecidableEq α]{l:List α}{x:α}(h:x∈l):aF l x=l:=by unfold aF;rw[JX (by simpa using h)]
theorem m5{α:Type}[DecidableEq α]{l:List α}{x:α}(h:x∉l):aF l x=l++[x]:=by unfold aF;rw[JU (by simpa using h)]
theorem m7{α:Type}[DecidableEq α]:∀(xs l:List α),(xs.foldl aF l).length<=l.length+xs.length
 |[],l=>JY _
 |x::xs,l=>by
  have:=m7 xs (aF l x);rw[Li,JS];by_cases h:x∈l
  .rw[ur h]at this ⊢;lia
  .rw[m5 h,JT,JS,J7]at this;rw[m5 h];lia
theorem mv(T:Top K mg base c):gz P w K mg base "without_repeats" 2 ["records"] (Hv c):=by
 have g:=T.g;have hk:=T.hk;refine T.nJ.cl ["records","kept","record"] ?_;rintro nd _ _ _ _ _ H _ Q E hr ⟨l,ws,xs,rfl,hl,hR,hlx,q⟩;refine⟨_,(ae (sS 1 nd kA)
  (ae (d3 aA rfl (cG (pv 0)) (gN 2 nd) (ah (aM (pY (dZ hr) (pv 1) (pF (r0 T) hr aq (aa (pv 2) ag)) (pv 2) ⟨rfl,rfl,rfl,rfl⟩))))
  (ah (ay (vZ rfl (pv 1) (by rfl) g.list zQ))))),?_⟩
 walk_at "rd";intro d hd;have s0:=aj (o:=.dT []) hd;have hpl:=Paired.length hR;refine⟨⟨_,aY.of (s0 _ _ hl)⟩,?_⟩;refine gW (H0:=H) (Walk.l (aY.of hl)) (fun i σ H'=>∃x kvs,σ=[some (.ref l),some (.ref d),x]/\ar H H'/\H' d=some (.dT kvs)/\Dc kR (fun v p=>Rec c H v p) kvs ((xs.take i).foldl aF [])/\kvs.length<=i) ⟨none,[],rfl,s0,af,.nil,JY _⟩ (fun i σ H' ⟨_,_,_,s,_⟩=>s) ?_ ?_
 .rintro i x σ H' hx ⟨x0,kvs,rfl,s1,h1d,dc,hkl⟩;obtain⟨p,hp,hr⟩:=Paired.get hR hx;have hil:i<xs.length:=(JW.mp hp).1;walk_at "rd";refine⟨.inr ⟨kvs,.inl h1d⟩,x,p,rfl,hr.same s1,fun v1 H2 s2 hk=>?_⟩;obtain⟨a,b,dd,ee,t,n1,n2,n3,n4⟩:=hk;have kd:rQ H2 v1 (kR p):=Tp.kd t (.cons n1.kd (.cons (.str _) (.cons (.int _) (.cons (Bt.kd n2) (.cons n3.kd (.cons (Bt.kd n4) .nil))))));obtain⟨ka,rfl,_⟩:=t;have kat:vA H2 ka (kR p):=⟨kd,GC p⟩
  rw[Aq hp];refine .inr ⟨kvs,kR p,ka,s2 _ _ h1d,rfl,kat,gZ (by lia),fun x1 e1=>?_,fun e1=>?_⟩
  .have hin:p∈(xs.take i).foldl aF []:=by
    rcases Classical.em (p∈(xs.take i).foldl aF []) with z|z
    .exact z
    .rw[dc.none_of uI z]at e1;cases e1
   rw[ur hin];exact⟨_,kvs,rfl,s1.trans s2,s2 _ _ h1d,dc,by lia⟩
  .have hin:p∉(xs.take i).foldl aF []:=fun z=>by
    obtain⟨v,e2,_⟩:=dc.some_of uI z;rw[e2]at e1;cases e1
   rw[m5 hin];obtain⟨e3,dc3⟩:=dc.new uI hin (v:=x) hr;exact⟨_,_,rfl,a8 (s1.trans s2) hd,af,dc3,by rw[e3,JT];show kvs.length+1<=i+1;lia⟩
 .rintro σ H' ⟨x0,kvs,rfl,s1,h1d,dc,_⟩;rw[hpl,List.take_length]at dc;walk_at "rd";refine⟨kvs,h1d,fun p hp=>?_⟩;have s2:=s1.trans (aj (o:=.lst (kvs.map (·.2))) hp);exact q _ _ s2 ⟨p,_,rfl,af,Paired.imp (fun _ _ r=>Rec.same r s2) dc.vals⟩
inductive FU (c:As) (vs:List V) (H:Hp) (Q:VK) (E:XK):Prop
 |mk (l:Addr) (ws:List V) (rs:List NM.PR) (_:vs=[.ref l]) (_:H l=some (.lst ws)) (_:Paired (Rec c H) ws rs) (_:rs.length<=70000) (_:(kr rs->∀H',ar H H'->Q .non H')) (_:(¬kr rs->∀H',ar H H'->E (.ref c.CS) none H'))
inductive Jy (H:Hp) (l:Addr) (rs:List NM.PR) (d:Addr) (i:Nat) (σ:St) (H':Hp):Prop
 |mk (x kvs:_) (_:σ=[some (.ref l),some (.ref d),x]) (_:ar H H') (_:H' d=some (.dK kvs)) (_:(∀r∈rs.take i,(r.kind = .CNAME->rs.length<=1)/\d9 kvs (Sum.inr (kS r.kind))=some (iv r.time))) (_:(∀k v,d9 kvs (Sum.inr (kS k))=some v->∃r∈rs.take i,r.kind=k/\v=iv r.time)) (_:kvs.length<=i)
theorem ni(T:Top K mg base c):gz P w K mg base "check_together" 1 ["records"] (FU c):=by
 have hk:=T.hk;refine T.oJ.cl ["records","times","record"] ?_;rintro nd _ _ _ _ _ H _ Q E hr ⟨l,ws,rs,rfl,hl,hR,hlx,q1,q2⟩;refine⟨_,(ae (sS 1 nd BY)
  (ah (d3 aA rfl (cG (pv 0)) (gN 2 nd) (ae (aR (PW.pt (jT (tR d4 (pD T (pv 2)) fB) (iC (tR iP (gL T (pv 0)) ak)))) (ah (bA T.gd hk aq)) aB)
  (ah (aR (tR gM (pY (dZ hr) (pv 1) (pD T (pv 2)) (pD T (pv 2)) ⟨rfl,rfl,rfl,rfl⟩) (pD T (pv 2))) (ah (bA T.gd hk aq)) aB)))))),?_⟩
 have hpl:=Paired.length hR;walk_at "rd";intro d hd;have s0:=aj (o:=.dK []) hd;refine⟨⟨_,aY.of (s0 _ _ hl)⟩,?_⟩;refine gW (H0:=H) (Walk.l (aY.of hl)) (Jy H l rs d)
  ⟨none,[],rfl,s0,af,fun r hr=>(by simp at hr),fun k v z=>(by cases z),JY _⟩ (fun i σ H' ⟨_,_,_,s,_,_,_,_⟩=>s) ?_ ?_
 .rintro i x σ H' hx ⟨x0,kvs,rfl,s1,h1d,ha,hb,hkl⟩;obtain⟨p,hp,hr0⟩:=Paired.get hR hx;have hil:i<rs.length:=(JW.mp hp).1;have htk:rs.take (i+1)=rs.take i++[p]:=by rw[List.take_succ,hp];rfl
  have hpm:p∈rs:=Kr hp;have sub:∀r∈rs.take i,r∈rs:=fun r hr=>List.mem_of_mem_take hr;obtain⟨ra,rdx,rfs,rfl,rh,rf⟩:=hr0.same s1;walk_at "rd";refine a0 rh T.aN T.cW rf.kind ?_;walk_at "rd";have rest:(p.kind = .CNAME->rs.length<=1)->He H' d/\dM K ("kind":Str) H' ra fun y H1=>dM K ("time":Str) H1 ra fun z H2=>E4 H2 d y z fun x1 H3=>dM K ("time":Str) H3 ra fun y1 H4=>BM x1 y1 H4 fun z1 H5=>uM z1 fun b=>if b=true then E (.ref c.CS) none H5 else Jy H l rs d (i+1) [some (V.ref l),some (V.ref d),some (V.ref ra)] H5:=by
   intro hc;refine⟨.inl ⟨kvs,.inl h1d⟩,?_⟩;refine a0 rh T.aN T.cW rf.kind (a0 rh T.aN T.fA rf.time ?_);refine .inl ⟨kvs,Sum.inr (kS p.kind),h1d,rfl,gZ (by lia),fun x1 e1=>?_,fun e1=>?_⟩
   .obtain⟨r,hr,hk,rfl⟩:=hb _ _ e1;refine a0 rh T.aN T.fA rf.time ?_;walk_at "rd";refine aS (fun hne=>q2 (fun tg=>hne (by rw[tg.2 p hpm r (sub r hr) hk])) _ s1) fun heq=>?_
    .have heq:r.time=p.time:=Int.ofNat.inj (Classical.not_not.mp heq);refine⟨_,kvs,rfl,s1,h1d,fun r' hr'=>?_,fun k v hv=>?_,by lia⟩
     .rw[htk]at hr';rcases Kj.mp hr' with hr'|hr'
      .exact ha r' hr'
      .obtain rfl:r'=p:=by simpa using hr'
       exact⟨hc,by rw[e1,heq]⟩
     .obtain⟨r',hr',h1,h2⟩:=hb k v hv;exact⟨r',by rw[htk];exact Kz _ hr',h1,h2⟩
   .have h2d:(upd H' d (.dK (putK kvs (Sum.inr (kS p.kind)) (iv p.time)))) ra=some (.ins c.CR rdx rfs):=by rw[ai (bH rh h1d (by simp))];exact rh
    refine a0 h2d T.aN T.fA rf.time ?_;show if (!decide ((p.time:Int)=(p.time:Int)))=true then _ else _
    rw[JU (show ¬((!decide ((p.time:Int)=(p.time:Int)))=true) by simp)];refine⟨_,_,rfl,a8 s1 hd,af,fun r' hr'=>?_,fun k v hv=>?_,?_⟩
    .rw[htk]at hr';rw[vD];rcases Kj.mp hr' with hr'|hr'
     .obtain⟨h1,h2⟩:=ha r' hr';refine⟨h1,?_⟩;rw[JU fun z=>by rw[<-z,h2]at e1;cases e1];exact h2
     .obtain rfl:r'=p:=by simpa using hr'
      exact⟨hc,by rw[JX rfl]⟩
    .rw[vD]at hv;by_cases hk:(Sum.inr (kS k):Key)=Sum.inr (kS p.kind)
     .rw[JX hk]at hv;cases hv;injection hk with hk
      exact⟨p,by rw[htk];simp,(jl hk).symm,rfl⟩
     .rw[JU hk]at hv;obtain⟨r',hr',h1,h2⟩:=hb k v hv;exact⟨r',by rw[htk];exact Kz _ hr',h1,h2⟩
    .have:=hV kvs (Sum.inr (kS p.kind)) (iv p.time);lia
  refine aS (fun hcn=>?_) fun hcn=>?_
  .have hcn:p.kind = .CNAME:=jl hcn;refine cD (aY.of (s1 _ _ hl)) ?_;walk_at "rd";refine aS (fun hgt=>q2 (fun tg=>?_) _ s1) fun hgt=>rest fun _=>by lia
   have:=tg.1 p hpm hcn;lia
  .exact rest fun z=>absurd (by rw[z];rfl) hcn
 .rintro σ H' ⟨x0,kvs,rfl,s1,h1d,ha,hb,hkl⟩;rw[hpl,List.take_length]at ha;refine q1 ⟨fun r hr=>(ha r hr).1,fun r hr s hs hk=>?_⟩ _ s1;have h1:=(ha r hr).2;have h2:=(ha s hs).2;rw[hk,h1]at h2;injection h2 with h2
  injection h2 with h2
  exact(Int.ofNat.inj h2).symm
end
section
theorem zF:∀a b:List (List (List Nat)),PyData.eqvAll (a.map dN) (b.map dN)=decide (a=b)
 |[],[]=>by rw[Lh,PyData.eqvAll];rfl
 |[],b::bs=>by rw[Lh,J5,PyData.eqvAll];rfl;all_goals simp
 |a::as,[]=>by rw[Lh,J5,PyData.eqvAll];rfl;all_goals simp
 |a::as,b::bs=>by
  rw[J5,J5,PyData.eqvAll,yA,zF as bs,Bool.eq_iff_iff];simp only[Kt,Lo,List.cons.injEq]
theorem zx:∀a:List (List (List Nat)),PyData.canLayAll0 (a.map dN)=true
 |[]=>by rw[Lh,PyData.canLayAll0]
 |a::as=>by rw[J5,PyData.canLayAll0,dN,PyData.canLay0,uG,zx as];rfl
theorem zJ:∀a:List (List (List Nat)),PyData.depthAll (a.map dN)<=2
 |[]=>by rw[Lh,PyData.depthAll];decide
 |a::as=>by
  have:=zJ as;have:=uT a;rw[J5,PyData.depthAll,dN,PyData.depth];lia
theorem qk(a:List (List (List Nat))):SeqAt.shaped (.list (a.map dN))=true:=by
 have:=zJ a;unfold SeqAt.shaped;rw[PyData.canLay0,zx,PyData.depth];simp only[Bool.true_and,Lo];lia
theorem yD:∀{vs:List V} {n:List (List (List Nat))},Paired (Nm H) vs n->n0 K H vs (n.map dN)
 |_,_,.nil=>.nil
 |_,_,.cons r t=>.cons r.dp (yD t)
theorem GH{l m:Addr}{vs us:List V}{a b:List (List (List Nat))}(h1:H l=some (.lst vs))(p1:Paired (Nm H) vs a)(h2:H m=some (.lst us))(p2:Paired (Nm H) us b)(q:Q (.bl (!decide (a=b))) H):BL K (.ref l) (.ref m) H Q :=
 ⟨.list (a.map dN),.list (b.map dN),.lst (aY.of h1) (yD p1),.lst (aY.of h2) (yD p2),qk _,qk _,by rw[PyData.eqv,zF];exact q⟩
inductive F3 (c:As) (vs:List V) (H:Hp) (Q:VK) (E:XK):Prop
 |mk (v:V) (d l:Addr) (ws:List V) (o:List (List Nat)) (xs:List NM.PR) (H0:Hp) (_:vs=[v,.ref l]) (_:Ha c H v d o xs) (_:H l=some (.lst ws)) (_:Paired (Rec c H) ws xs) (_:xs.length<=70000) (_:ar H0 H) (_:H0 d=none) (_:(gU o xs->∀H',ar H H'->Q .non H')) (_:(¬gU o xs->∀H',ar H0 H'->E (.ref c.CS) none H'))
inductive JH (l:Addr) (xs:List NM.PR) (a:Addr) (ns:List (List (List Nat))) (HL:Hp) (i:Nat) (σ:St) (H':Hp):Prop
 |mk (x y:_) (_:σ=[some (.ref a),some (.ref l),x,y]) (_:ar HL H') (_:∀j n,j<i->ns[j]?=some n->kr (NM.own xs n))
theorem pK(T:Top K mg base c):gz P w K mg base "check_served" 3 ["zone","records"] (F3 c):=by
 have g:=T.g;have hk:=T.hk;refine T.rH.cl ["zone","records","together","record"] ?_;rintro nd _ _ _ _ _ H _ Q E hr ⟨v,d,l,ws,o,xs,H0,rfl,hZ,hl,hR,hlx,s0,h0d,q1,q2⟩;refine⟨_,(ae (aR (tR iP (gL T (pv 1)) (aQ g.vi)) (ah (bA T.gd hk aq)) aB)
  (ae (aR (tR (qG (dZ hr)) (gh (own:=[("record",3)]) aq rfl rfl rfl nd (cG (pv 1)) (cP (by kernel_rfl)) (fun _ _ _ _ _ _ hA=>(gN 3 nd)) (fun _ _ _ _ _ _ hA=>(pW (tR d4 (pD T (pv 3)) fB))) (fun _ _ _ _ _ _ hA=>(pD T (pv 3)))) (bN (aa (pD T (pv 0)) ag))) (ah (bA T.gd hk aq)) aB)
  (ae (aR (tR d4 (gL T (fI (pv 0) (cQ T) T.cM (hr.mono (by decide)) aq (aa (pD T (pv 0)) (aa fB ag)))) ak) (ah (bA T.gd hk aq)) aB)
  (ah (zl (d3 aA rfl (ye (pD T (pv 0))) (gN 2 nd) (ah (aM (pF (ni T) hr aq (aa (pv 2) ag)))))))))),?_⟩
 have hpl:=Paired.length hR;have hZn:Zn c H v o xs:=⟨d,hZ⟩
 obtain⟨a,rfl,hi⟩:=hZn.ins;obtain⟨a',dx,fs,ea,h,f⟩:=id hZ;cases ea;obtain⟨v1,e1,n1⟩:=f.origin;obtain⟨kvs,ns,hd,dc,hns⟩:=f.dict;walk_at "rd";refine cD (aY.of hl) ?_;walk_at "rd";refine aS (fun hgt=>q2 (fun z=>by have:=z.few;lia) _ s0) fun hgt=>?_;refine⟨⟨_,aY.of hl⟩,fun D hD=>?_⟩;refine j0 (Walk.l (aY.of hl)) (R:=Rec c) (S:=Nm) hR (fun _ _ _ _ s r=>r.same s) (fun _ _ _ _ s r=>r.lk s) (fun p=>decide (p.kind = .SOA)) NM.PR.name (by lia) hD (fun i p x H' kk kn h1 h2 h3 h4 h5=>?_) fun acc H1 ha hp1 s1=>?_
 .obtain⟨ra,rdx,rfs,rfl,rh,rf⟩:=id h2;obtain⟨vn,en,nn⟩:=rf.name;walk_at "rd";refine a0 rh T.aN T.cW rf.kind ?_;walk_at "rd";refine aS (fun hk=>a0 rh T.aN T.f6 en (h4 (KO (jl (b:= .SOA) hk)) _ _ (ar.refl _) nn)) fun hk=>h5 (Kl fun z=>hk (by rw[z])) _ (ar.refl _)
 walk_at "rd";refine a0 (s1 _ _ h) T.cM T.eB e1 ⟨az (by decide),fun m hm=>?_⟩;have s2:=aj (o:=.lst [v1]) hm;have s02:=s1.trans s2;refine GH (s2 _ _ ha) (Paired.imp (fun _ _ r=>Nm.same r s2) hp1) af (.cons (n1.same s02) .nil) ?_;walk_at "rd";refine aS (fun hne=>q2 (fun z=>hne z.soa) _ (s0.trans s02)) fun hsoa=>?_;have hsoa:=Classical.not_not.mp hsoa;refine⟨(hi _ (by decide +kernel) (by decide +kernel) (by decide +kernel)).same s02,a0 (s02 _ _ h) T.cM T.eB e1 ?_⟩;refine⟨.ref a,v1,o,xs,o,.NS,rfl,hZn.same s02,n1.same s02,hlx,fun v3 H3 s3 hL=>?_⟩;obtain⟨l3,vs3,rfl,hl3,hp3⟩:=hL;have s03:=s02.trans s3;have hpl3:=Paired.length hp3;refine cD (aY.of hl3) ?_;walk_at "rd";refine aS (fun hz=>q2 (fun z=>z.ns (by cases e:fF xs o .NS with
  |nil=>rfl
  |cons _ _=>rw[e,JS]at hpl3;lia)) _ (s0.trans s03)) fun hnz=>?_
 have hns0:fF xs o .NS≠[]:=fun z=>by rw[z,J7]at hpl3;exact hnz (by lia)
 refine⟨d,.dT kvs,s03 _ _ hd,True.intro,fun od=>?_⟩;generalize hHL:upd H3 d (.frz od (.dT kvs))=HL;have hLd:HL d=some (.frz od (.dT kvs)):=by rw[<-hHL,af]
 have hLo:∀b,b≠d->HL b=H3 b:=fun b z=>by rw[<-hHL,ai z]
 have s0L:ar H0 HL:=by rw[<-hHL];exact a8 (s0.trans s03) h0d
 have rkL:Rk H HL:=(uc s03).trans (by rw[<-hHL];exact Fs (s03 _ _ hd));have had:a≠d:=bH h hd (by simp);clear hHL;walk_at "rd";refine a0 (by rw[hLo a had];exact s03 _ _ h) T.cM T.gw f.by_name ⟨od,kvs,hLd,?_⟩;refine A6 (JH l xs a ns HL) ⟨none,none,rfl,ar.refl _,fun j n z=>absurd z (Nat.not_lt_zero _)⟩ (fun i σ H' ⟨_,_,_,s,_⟩=>s _ _ hLd) ?_ ?_
 .rintro i k v σ H' hkv ⟨x,y,rfl,s4,htg⟩;obtain⟨n,hn,_,l5,vs5,e5,hl5,hp5⟩:=Paired.get dc hkv;dsimp only at e5;subst e5;have hl5d:l5≠d:=bH hl5 hd (by simp);have hl6:H' l5=some (.lst vs5):=s4 _ _ (by rw[hLo l5 hl5d];exact s03 _ _ hl5);have hlo:=kB (xs:=xs) (n:=n);walk_at "rd";refine⟨l5,vs5,NM.own xs n,rfl,hl6,Paired.imp (fun _ _ r=>(Rec.rk r rkL).same s4) hp5,by lia,fun tg H6 s6=>?_,fun ntg H6 s6=>q2 (fun z=>ntg ?_) _ ((s0L.trans s4).trans s6)⟩
  .refine⟨_,_,rfl,s4.trans s6,fun j m hj hm=>?_⟩;rcases Nat.lt_or_ge j i with z|z
   .exact htg j m z hm
   .have:j=i:=by lia
    subst this;rw[hn]at hm;cases hm;exact tg
  .obtain⟨p,hp,e⟩:=(hns n).mp (Kr hn);rw[<-e];exact z.tog p hp
 .rintro σ H' ⟨x,y,rfl,s4,htg⟩;refine⟨s4 _ _ hLd,q1 ⟨by lia,hsoa,hns0,fun p hp=>?_⟩ _ fun b ob eb=>?_⟩
  .obtain⟨j,hj⟩:=List.getElem?_of_mem ((hns p.name).mpr ⟨p,hp,rfl⟩);refine htg j _ ?_ hj;have:=(JW.mp hj).1;rw[dc.len];exact this
  .by_cases z:b=d
   .subst z;rw[af];rw[hd]at eb;exact eb
   .rw[ai z];exact s4 _ _ (by rw[hLo b z];exact s03 _ _ eb)
inductive Bp (c:As) (vs:List V) (H:Hp) (Q:VK) (E:XK):Prop
 |mk (v1:V) (l:Addr) (ws:List V) (o:List (List Nat)) (xs:List NM.PR) (_:vs=[v1,.ref l]) (_:Nm H v1 o) (_:H l=some (.lst ws)) (_:Paired (Rec c H) ws xs) (_:(∀x∈xs,Sn12.under x.name o=true/\x.name.length<=255)) (_:xs.length<=40000) (_:(gU o (xs.foldl aF [])->∀v H',ar H H'->Zn c H' v o (xs.foldl aF [])->Q v H')) (_:(¬gU o (xs.foldl aF [])->∀H',ar H H'->E (.ref c.CS) none H'))
theorem B7(T:Top K mg base c):gz P w K mg base "serve" 4 ["origin","records"] (Bp c):=by
 refine T.EC.cl ["origin","records","kept","zone"] ?_;rintro nd _ _ _ _ _ H _ Q E hr ⟨v1,l,ws,o,xs,rfl,hN,hl,hR,hxs,hlx,q1,q2⟩;refine⟨_,(ae (sS 2 nd (pF (mv T) hr aq (aa (pv 1) ag)))
  (ae (sS 3 nd (BV (ox T) T.Gp (hr.mono (by decide)) aq (aa (pv 0) (aa (pv 2) ag))))
  (ae (aM (pF (pK T) hr aq (aa (pv 3) (aa (pv 2) ag))))
  (ah (ay (pv 3)))))),?_⟩
 walk_at "rd";refine⟨l,ws,xs,rfl,hl,hR,by lia,fun v2 H2 s2 hL=>?_⟩;obtain⟨l2,ws2,rfl,hl2,hp2⟩:=hL;have hlk:=m7 xs [];rw[J7]at hlk;have hxs':∀x∈xs.foldl aF [],Sn12.under x.name o=true/\x.name.length<=255:=fun x hx=>by
  rcases(m6 xs [] x).mp hx with z|z
  .cases z
  .exact hxs x z
 generalize xs.foldl aF []=ks at q1 q2 hp2 hlk hxs';walk_at "rd";intro x dx hx hdx hne;have sx:ar H2 (upd (upd H2 dx (.own x)) x (.ins c.CZ dx [])):=(aj hdx).trans (aj (by rw[ai (Ne.symm hne)];exact hx));generalize hH3:upd (upd H2 dx (.own x)) x (.ins c.CZ dx [])=H3 at sx;have h3x:H3 x=some (.ins c.CZ dx []):=by rw[<-hH3,af]
 clear hH3;have swo:ar H2 (wo H3 x):=ik sx hx;refine⟨x,dx,l2,v1,ws2,o,ks,rfl,h3x,hN.same (s2.trans sx),sx _ _ hl2,Paired.imp (fun _ _ r=>Rec.same r swo) hp2,hxs',by lia,fun H4 d hZ h3d s4=>⟨rfl,?_⟩⟩;have s24:=swo.trans s4;have hHd:H d=none:=by
  cases hz:H d with
  |none=>rfl
  |some ob=>have:=sx _ _ (s2 _ _ hz);rw[h3d]at this;cases this
 walk_at "rd";exact⟨.ref x,d,l2,ws2,o,ks,H,rfl,hZ,s24 _ _ hl2,Paired.imp (fun _ _ r=>Rec.same r s24) hp2,by lia,s2.trans s24,hHd,fun sv H5 s5=>q1 sv _ _ ((s2.trans s24).trans s5) ⟨d,hZ.same s5⟩,fun nsv H5 s5=>q2 nsv _ s5⟩
end
section
inductive Pr (c:As) (H:Hp) (v:V) (q:NM.Pair):Prop
 |mk (a b:V) (_:Tp H v [a,b]) (_:Nm H a q.1) (_:Rec c H b q.2)
theorem Pr.lk(h:Pr c H v q)(s:Lk H H'):Pr c H' v q:=let ⟨a,b,t,n,r⟩:=h;⟨a,b,t.lk s,n.lk s,r.lk s⟩
theorem Pr.same(h:Pr c H v q)(s:ar H H'):Pr c H' v q:=h.lk (iy s)
theorem Pr.new{a b:V}{r:NM.PR}(hp:H p=none)(h1:Nm H a n)(h2:Rec c H b r):Pr c (upd H p (.tup [a,b])) (.ref p) (n,r):=⟨a,b,Tp.new,h1.same (aj hp),h2.same (aj hp)⟩
theorem yR(s:ar H H'):ar (wo H a) (wo H' a):=fun b o e=>by
 by_cases z:b=a
 .subst z;rw[cF]at e;cases e
 .rw[aZ z]at e ⊢;exact s _ _ e
theorem n9{o:HO}:wo (upd H a o) a=wo H a:=by
 funext b;by_cases z:b=a
 .subst z;rw[cF,cF]
 .rw[aZ z,aZ z,ai z]
theorem Dz{o:HO}(h:b≠a):wo (upd H b o) a=upd (wo H a) b o:=by
 funext x;by_cases z:x=a
 .subst z;rw[cF,ai (Ne.symm h),cF]
 .rw[aZ z];by_cases y:x=b
  .subst y;rw[af,af]
  .rw[ai y,ai y,aZ z]
theorem jC{f:Str}:∀{fs:List (Str×V)},fs.lookup f=some y->(fm f v fs).length=fs.length
 |[],h=>nomatch h
 |(k,x)::r,h=>by
  rw[show fm f v ((k,x)::r)=(if k=f then(k,v)::r else(k,x)::fm f v r) from rfl];by_cases z:k=f
  .rw[JX z];rfl
  .rw[JU z,JS,JS];rw[K2,KP.mpr (Ne.symm z)]at h;rw[jC h]
structure JQ (fs:List (Str×V)) (code:Nat) (own:Bool) (la lu:Addr):Prop where
 len:fs.length<=4
 code:fs.lookup ("code":Str)=some (iv code)
 own:fs.lookup ("is_own":Str)=some (.bl own)
 ans:fs.lookup ("answers":Str)=some (.ref la)
 aut:fs.lookup ("authority":Str)=some (.ref lu)
 nam:fs.lookup ("name":Str)=none
inductive Fd (c:As) (H:Hp) (a la:Addr) (code:Nat) (own:Bool) (an au:List NM.Pair):Prop
 |mk (dx:Addr) (fs:List (Str×V)) (lu:Addr) (vsA vsU:List V) (_:H a=some (.ins c.CF dx fs)) (_:JQ fs code own la lu) (_:H la=some (.lst vsA)) (_:Paired (Pr c (wo H a)) vsA an) (_:H lu=some (.lst vsU)) (_:Paired (Pr c (wo H a)) vsU au) (_:la≠lu)
theorem Fd.same{la:Addr}{code:Nat}{own:Bool}(h:Fd c H a la code own an au)(s:ar H H'):Fd c H' a la code own an au:=by
 obtain⟨dx,fs,lu,vsA,vsU,h1,f,h2,p1,h3,p2,ne⟩:=h;exact⟨dx,fs,lu,vsA,vsU,s _ _ h1,f,s _ _ h2,Paired.imp (fun _ _ r=>Pr.same r (yR s)) p1,s _ _ h3,Paired.imp (fun _ _ r=>Pr.same r (yR s)) p2,ne⟩
theorem Rec.out{p:NM.PR}{fs:List (Str×V)}(h:Rec c H v p)(ha:H a=some (.ins C dx fs))(hn:fs.lookup ("name":Str)=none):Rec c (wo H a) v p:=by
 have tk:Tk H (wo H a):=⟨fun b xs e=>by rw[aZ (bH e ha (by simp))];exact e,fun b o xs e=>by rw[aZ (bH e ha (by simp))];exact e⟩
 obtain⟨b,dx',fs',rfl,hb,f⟩:=h;have hne:b≠a:=fun z=>by
  subst z;rw[ha]at hb;cases hb;obtain⟨v,e,_⟩:=f.name;rw[hn]at e;cases e
 obtain⟨⟨v1,e1,n1⟩,k,nu,t,⟨v2,e2,n2⟩,⟨v3,e3,n3⟩,⟨v4,e4,n4⟩⟩:=f;exact⟨b,dx',fs',rfl,by rw[aZ hne];exact hb,⟨v1,e1,tk.nm n1⟩,k,nu,t,⟨v2,e2,tk.bt n2⟩,⟨v3,e3,tk.ns n3⟩,⟨v4,e4,tk.bt n4⟩⟩
theorem Pr.out{fs:List (Str×V)}(h:Pr c H v q)(ha:H a=some (.ins C dx fs))(hn:fs.lookup ("name":Str)=none):Pr c (wo H a) v q:=by
 have tk:Tk H (wo H a):=⟨fun b xs e=>by rw[aZ (bH e ha (by simp))];exact e,fun b o xs e=>by rw[aZ (bH e ha (by simp))];exact e⟩
 obtain⟨x,y,t,n,r⟩:=h;exact⟨x,y,tk.tp t,tk.nm n,r.out ha hn⟩
section
variable{la:Addr}{code:Nat}{own:Bool}
theorem Fd.ins(h:Fd c H a la code own an au):∃dx fs,H a=some (.ins c.CF dx fs)/\fs.lookup ("name":Str)=none:=by
 obtain⟨dx,fs,lu,vsA,vsU,h1,f,_⟩:=h;exact⟨dx,fs,h1,f.nam⟩
theorem Fd.rcd{p:NM.PR}(h:Fd c H a la code own an au)(r:Rec c H v p):Rec c (wo H a) v p:=let ⟨_,_,h1,h2⟩:=h.ins;r.out h1 h2
theorem Fd.pr{p:NM.Pair}(h:Fd c H a la code own an au)(r:Pr c H v p):Pr c (wo H a) v p:=let ⟨_,_,h1,h2⟩:=h.ins;r.out h1 h2
theorem Fd.len(T:Top K mg base c)(h:Fd c H a la code own an au)(q:Q (.int (an.length:Int)) H):dM K ("answers":Str) H a fun x H1=>vY K [x] H1 Q:=by
 obtain⟨dx,fs,lu,vsA,vsU,h1,f,h2,p1,h3,p2,ne⟩:=h;refine a0 h1 T.cR T.d8 f.ans (cD (aY.of h2) ?_);rw[Paired.length p1];exact q
theorem Fd.setCode{Q:Hp->Prop}(T:Top K mg base c)(h:Fd c H a la code own an au)(q:∀H',(∀b,b≠a->H' b=H b)->Fd c H' a la k own an au->Q H'):pB K ("code":Str) (iv k) H a Q:=by
 obtain⟨dx,fs,lu,vsA,vsU,h1,f,h2,p1,h3,p2,ne⟩:=h;have hlen:=f.len;refine fb h1 T.cR T.iX (by lia) (q _ (fun b hb=>ai hb) ⟨dx,_,lu,vsA,vsU,af,⟨?_,?_,?_,?_,?_,?_⟩,?_,by rw[n9];exact p1,?_,by rw[n9];exact p2,ne⟩)
 .rw[jC f.code];exact f.len
 .rw[aC,JX rfl]
 .rw[aC,JU (by decide +kernel)];exact f.own
 .rw[aC,JU (by decide +kernel)];exact f.ans
 .rw[aC,JU (by decide +kernel)];exact f.aut
 .rw[aC,JU (by decide +kernel)];exact f.nam
 .rw[ai (bH h2 h1 (by simp))];exact h2
 .rw[ai (bH h3 h1 (by simp))];exact h3
theorem Fd.setOwn{Q:Hp->Prop}{k:Bool}(T:Top K mg base c)(h:Fd c H a la code own an au)(q:∀H',(∀b,b≠a->H' b=H b)->Fd c H' a la code k an au->Q H'):pB K ("is_own":Str) (.bl k) H a Q:=by
 obtain⟨dx,fs,lu,vsA,vsU,h1,f,h2,p1,h3,p2,ne⟩:=h;have hlen:=f.len;refine fb h1 T.cR T.gT (by lia) (q _ (fun b hb=>ai hb) ⟨dx,_,lu,vsA,vsU,af,⟨?_,?_,?_,?_,?_,?_⟩,?_,by rw[n9];exact p1,?_,by rw[n9];exact p2,ne⟩)
 .rw[jC f.own];exact f.len
 .rw[aC,JU (by decide +kernel)];exact f.code
 .rw[aC,JX rfl]
 .rw[aC,JU (by decide +kernel)];exact f.ans
 .rw[aC,JU (by decide +kernel)];exact f.aut
 .rw[aC,JU (by decide +kernel)];exact f.nam
 .rw[ai (bH h2 h1 (by simp))];exact h2
 .rw[ai (bH h3 h1 (by simp))];exact h3
theorem Fd.setAuth{Q:Hp->Prop}{lu:Addr}{vs:List V}{ps:List NM.Pair}(T:Top K mg base c)(h:Fd c H a la code own an au)(hl:H lu=some (.lst vs))(hp:Paired (Pr c H) vs ps)(hne:la≠lu)(q:∀H',(∀b,b≠a->H' b=H b)->Fd c H' a la code own an ps->Q H'):pB K ("authority":Str) (.ref lu) H a Q:=by
 have out:=fun v p=>Fd.pr (v:=v) (p:=p) h;obtain⟨dx,fs,lu',vsA,vsU,h1,f,h2,p1,h3,p2,ne⟩:=h;have hlen:=f.len;refine fb h1 T.cR T.eE (by lia) (q _ (fun b hb=>ai hb) ⟨dx,_,lu,vsA,vs,af,⟨?_,?_,?_,?_,?_,?_⟩,?_,by rw[n9];exact p1,?_,by rw[n9];exact Paired.imp (fun v p r=>out v p r) hp,hne⟩)
 .rw[jC f.aut];exact f.len
 .rw[aC,JU (by decide +kernel)];exact f.code
 .rw[aC,JU (by decide +kernel)];exact f.own
 .rw[aC,JU (by decide +kernel)];exact f.ans
 .rw[aC,JX rfl]
 .rw[aC,JU (by decide +kernel)];exact f.nam
 .rw[ai (bH h2 h1 (by simp))];exact h2
 .rw[ai (bH hl h1 (by simp))];exact hl
theorem Fd.app{vsA:List V}{bn:List NM.Pair}(h:Fd c H a la code own an au)(hl:H la=some (.lst vsA))(hp:Paired (Pr c H) ys bn):Fd c (upd H la (.lst (vsA++ys))) a la code own (an++bn) au:=by
 have out:=fun v p=>Fd.pr (v:=v) (p:=p) h;obtain⟨dx,fs,lu,vsA',vsU,h1,f,h2,p1,h3,p2,ne⟩:=h;rw[hl]at h2;cases h2;have hla:la≠a:=bH hl h1 (by simp);have lk:Lk (wo H a) (wo (upd H la (.lst (vsA++ys))) a):=by rw[Dz hla];exact jZ (by rw[aZ hla];exact hl)
 exact⟨dx,fs,lu,_,vsU,by rw[ai (Ne.symm hla)];exact h1,f,af,Paired.app (Paired.imp (fun _ _ r=>Pr.lk r lk) p1) (Paired.imp (fun v p r=>(out v p r).lk lk) hp),by rw[ai (Ne.symm ne)];exact h3,Paired.imp (fun _ _ r=>Pr.lk r lk) p2,ne⟩
theorem Fd.lst(h:Fd c H a la code own an au):∃vsA,H la=some (.lst vsA)/\vsA.length=an.length:=by
 obtain⟨dx,fs,lu,vsA,vsU,h1,f,h2,p1,_⟩:=h;exact⟨vsA,h2,Paired.length p1⟩
theorem Fd.fldA(T:Top K mg base c)(h:Fd c H a la code own an au)(q:Q (.ref la) H):dM K ("answers":Str) H a Q:=by
 obtain⟨dx,fs,lu,vsA,vsU,h1,f,_⟩:=h;exact a0 h1 T.cR T.d8 f.ans q
end
theorem g9(s:ar Hb H)(h:Hb a=none)(k:∀b,b≠a->H' b=H b):ar Hb H':=fun b o e=>by
 rw[k b (aH e h)];exact s _ _ e
inductive F1 (c:As) (vs:List V) (H:Hp) (Q:VK) (E:XK):Prop
 |mk (p dx:Addr) (_:vs=[.ref p]) (_:H p=some (.ins c.CF dx [])) (_:∀H' la,ar (wo H p) H'->H la=none->Fd c H' p la 0 true [] []->Q .non H')
theorem lW(T:Top K mg base c):E3 P w K mg base c.CF 1 ["self"] (F1 c):=by
 refine T.AH.cl ["self"] ?_;rintro nd _ _ _ _ _ H _ Q E hr ⟨p,dx,rfl,hp,q⟩;refine⟨_,(ae (cK (pv 0) ak rfl)
  (ae (cK (pv 0) mY rfl)
  (ae (cK (pv 0) (bN ag) rfl)
  (ah (cK (pv 0) (bN ag) rfl))))),?_⟩
 walk_at "rd";refine fb hp T.cR T.iX (by show 0<1000;decide) ?_;walk_at "rd";refine fb af T.cR T.gT (by show 1<1000;decide) ?_;rw[fN];walk_at "rd";refine⟨az (by decide),fun la hla=>?_⟩;have hlap:la≠p:=fun z=>by subst z;rw[af]at hla;cases hla
 have hla0:H la=none:=by rw[ai hlap]at hla;exact hla
 refine fb (by rw[ai (Ne.symm hlap)];exact af) T.cR T.d8 (by show 2<1000;decide) ?_;generalize hH1:upd (upd (upd H p _) la (.lst [])) p _=H1;have h1p:H1 p=some (.ins c.CF dx (fm ("answers":Str) (.ref la) (fm ("is_own":Str) (.bl true) (fm ("code":Str) (.int 0) [])))):=by rw[<-hH1,af]
 have h1l:H1 la=some (.lst []):=by rw[<-hH1,ai hlap,af]
 have s1:ar (wo H p) H1:=fun b ob e=>by
  have hb:b≠p:=fun z=>by subst z;rw[cF]at e;cases e
  rw[aZ hb]at e;rw[<-hH1,ai hb,ai (aH e hla0),ai hb];exact e
 clear hH1;walk_at "rd";refine⟨az (by decide),fun lu hlu=>?_⟩;have hlup:lu≠p:=fun z=>by subst z;rw[h1p]at hlu;cases hlu
 have hlul:lu≠la:=fun z=>by subst z;rw[h1l]at hlu;cases hlu
 refine fb (by rw[ai (Ne.symm hlup)];exact h1p) T.cR T.eE (by show 3<1000;decide) ?_;have l:∀(g f:Str) (v:V) (fs:List (Str×V)),¬g=f->(fm f v fs).lookup g=fs.lookup g:=fun g f v fs h=>by rw[aC,JU h]
 have l0:∀(f:Str) (v:V) (fs:List (Str×V)),(fm f v fs).lookup f=some v:=fun f v fs=>by rw[aC,JX rfl]
 refine q _ la (fun b ob e=>?_) hla0 ⟨dx,_,lu,[],[],af,⟨?_,?_,?_,?_,?_,?_⟩,?_,.nil,?_,.nil,Ne.symm hlul⟩
 .have hb:b≠p:=fun z=>by subst z;rw[cF]at e;cases e
  rw[ai hb,ai (aH (s1 _ _ e) hlu)];exact s1 _ _ e
 .show 4<=4;decide
 .rw[l _ _ _ _ (by decide +kernel),l _ _ _ _ (by decide +kernel),l _ _ _ _ (by decide +kernel),l0];rfl
 .rw[l _ _ _ _ (by decide +kernel),l _ _ _ _ (by decide +kernel),l0]
 .rw[l _ _ _ _ (by decide +kernel),l0]
 .rw[l0]
 .rw[l _ _ _ _ (by decide +kernel),l _ _ _ _ (by decide +kernel),l _ _ _ _ (by decide +kernel),l _ _ _ _ (by decide +kernel)];rfl
 .rw[ai hlap,ai (Ne.symm hlul)];exact h1l
 .rw[ai hlup,af]
inductive Bz (c:As) (vs:List V) (H:Hp) (Q:VK) (E:XK):Prop
 |mk (v:V) (o:List (List Nat)) (xs:List NM.PR) (p:NM.PR) (r:List NM.PR) (_:vs=[v]) (_:Zn c H v o xs) (_:xs.length<=70000) (_:fF xs o .SOA=p::r) (_:∀l H',H l=none->ar H H'->Ls (Pr c) H' (.ref l) [(o,p)]->Q (.ref l) H')
theorem jx(T:Top K mg base c):gz P w K mg base "own_authority" 4 ["zone"] (Bz c):=by
 refine T.pN.cl ["zone"] ?_;rintro nd _ _ _ _ _ H _ Q E hr ⟨v,o,xs,p,r,rfl,hZ,hlx,hp,q⟩;refine⟨_,(ah (ay (bN (aa (bM (aa (pD T (pv 0)) (aa (Gj (pv 0) (ji T) T.cM (hr.mono (by decide)) aq) ag))) ag)))),?_⟩;obtain⟨a,rfl,hi⟩:=hZ.ins;obtain⟨d,a',dx,fs,ea,h,f⟩:=id hZ;cases ea;obtain⟨v1,e1,n1⟩:=f.origin;walk_at "rd";refine a0 h T.cM T.eB e1 ⟨hi _ (by decide +kernel) (by decide +kernel) (by decide +kernel),.ref a,o,xs,p,r,rfl,hZ,hlx,hp,fun v2 H2 s2 r2=>?_⟩;refine⟨az (by decide),fun t ht=>⟨az (by decide),fun l hl=>?_⟩⟩;have s3:=aj (o:=.tup [v1,v2]) ht;have s4:=aj (o:=.lst [.ref t]) hl;have hl0:H l=none:=by
  cases hz:H l with
  |none=>rfl
  |some ob=>have:=s3 _ _ (s2 _ _ hz);rw[hl]at this;cases this
 exact q l _ hl0 ((s2.trans s3).trans s4) ⟨l,[.ref t],rfl,af,.cons ((Pr.new ht (n1.same s2) r2).same s4) .nil⟩
inductive BC (c:As) (vs:List V) (H:Hp) (Q:VK) (E:XK):Prop
 |mk (a la:Addr) (code:Nat) (own:Bool) (an au:List NM.Pair) (Hb:Hp) (_:vs=[.ref a]) (_:Fd c H a la code own an au) (_:ar Hb H) (_:Hb a=none) (_:∀H',ar Hb H'->Fd c H' a la (if an=[] then 5 else code) (if an=[] then false else own) an au->Q .non H')
theorem qL(T:Top K mg base c):gz P w K mg base "end_outside" 1 ["finding"] (BC c):=by
 have g:=T.g;refine T.sE.cl ["finding"] ?_;rintro nd _ _ _ _ _ H _ Q E hr ⟨a,la,code,own,an,au,Hb,rfl,hF,sb,hba,q⟩;refine⟨_,(ah (aR (tR d4 (gL T (pD T (pv 0))) ak) (ae (cK (pv 0) (aQ g.zW) rfl)
  (ah (cK (pv 0) mY rfl))) aB)),?_⟩
 walk_at "rd";refine hF.len T ?_;walk_at "rd";refine aS (fun hz=>?_) fun hz=>?_
 .have e:an=[]:=List.length_eq_zero_iff.mp (by lia);rw[JX e,JX e]at q;refine hF.setCode (k:=5) T fun H1 k1 f1=>?_;walk_at "rd";exact f1.setOwn T fun H2 k2 f2=>q _ (g9 (g9 sb hba k1) hba k2) f2
 .have e:an≠[]:=fun z=>hz (by rw[z];rfl);rw[JU e,JU e]at q;exact q _ sb hF
end
section
theorem HP(n a b:Nat):zA (iv n) [iv a,iv b]=decide (n=a\/n=b):=by
 rw[Bool.eq_iff_iff];simp only[zA,K0,List.any_nil,CO,Lm,beq_iff_eq,Bool.or_false,Lo];constructor
 .rintro(h|h)
  .exact .inl (by lia)
  .exact .inr (by lia)
 .rintro(h|h)
  .exact .inl (by lia)
  .exact .inr (by lia)
theorem Fd.recs{la:Addr}{code:Nat}{own:Bool}{vs:List V}{ps:List NM.PR}(h:Fd c H a la code own an au)(r:Paired (Rec c H) vs ps):Paired (Rec c (wo H a)) vs ps:=Paired.imp (fun _ _ r=>h.rcd r) r
theorem o4(k:∀b,b≠a->H' b=H b):ar (wo H a) H':=fun b o e=>by
 have hb:b≠a:=fun z=>by subst z;rw[cF]at e;cases e
 rw[k b hb];rwa [aZ hb]at e
inductive yZ (c:As) (vs:List V) (H:Hp) (Q:VK) (E:XK):Prop
 |mk (v u:V) (l a la:Addr) (ws:List V) (n o:List (List Nat)) (num code:Nat) (own:Bool) (xs ls:List NM.PR) (p:NM.PR) (r:List NM.PR) (an au:List NM.Pair) (Hb:Hp) (_:vs=[v,u,.ref l,iv num,.ref a]) (_:ar Hb H) (_:Hb a=none) (_:Hb la=none) (_:Zn c Hb v o xs) (_:xs.length<=70000) (_:Nm Hb u n) (_:H l=some (.lst ws)) (_:Paired (Rec c H) ws ls) (_:fF xs o .SOA=p::r) (_:Fd c H a la code own an au) (_:an.length<=100) (_:ls.length<=70000) (_:∀H',ar Hb H'->Fd c H' a la code own (an++(NM.asks num ls).map fun q=>(n,q)) (if NM.asks num ls=[] then [(o,p)] else au)->Q .non H')
theorem rZ(T:Top K mg base c):gz P w K mg base "take_asked" 5 ["zone","name","records","asked_number","finding"] (yZ c):=by
 have g:=T.g;refine T.uV.cl ["zone","name","records","asked_number","finding","asked","record"] ?_;rintro nd _ _ _ _ _ H _ Q E hr ⟨v,u,l,a,la,ws,n,o,num,code,own,xs,ls,p,r,an,au,Hb,rfl,sb,hba,hbl,hZ,hlx,hN,hl,hR,hp,hF,hal,hll,q⟩;refine⟨_,(ae (om (i:=5) (own:=[("record",6)]) aq rfl rfl rfl nd rfl rfl (tW rfl rfl rfl (by kernel_rfl)) (cG (pv 2)) (cP (by kernel_rfl)) (fun _ _ _ _ _ _ hA=>(gN 6 nd)) (fun _ _ _ _ _ _ hA=>(pW (mV (yh (K:=K) rfl) (pv 3) (bM (aa (pD T (pv 6)) (aa (aQ g.rP) ag))) (by with_unfolding_all rfl)))) (fun _ _ _ _ _ _ hA=>(pv 6)))
  (ae (aR (tR d4 (gL T (pv 5)) ak) (ah (cK (pv 4) (pF (jx T) hr aq (aa (pv 0) ag)) rfl)) aB)
  (ah (aM (fo Ka Ko Km jB (pD T (pv 4)) (aa (gh (own:=[("record",6)]) aq rfl rfl rfl nd (cG (pv 5)) (cP (by kernel_rfl)) (fun _ _ _ _ _ _ hA=>(gN 6 nd)) (fun _ _ _ _ _ _ hA=>fE) (fun _ _ _ _ _ _ hA=>(bM (aa (pv 1) (aa (pv 6) ag))))) ag)))))),?_⟩
 walk_at "rd";refine⟨⟨_,aY.of hl⟩,fun D hD=>?_⟩;refine j0 (Walk.l (aY.of hl)) (R:=Rec c) (S:=Rec c) hR (fun _ _ _ _ s r=>r.same s) (fun _ _ _ _ s r=>r.lk s) (fun p=>decide (num=p.kind.num\/num=255)) id (by lia) hD (fun i d x H' kk kn h1 h2 h3 h4 h5=>?_) fun acc H1 ha hp1 s1=>?_
 .obtain⟨ra,rdx,rfs,rfl,rh,rf⟩:=id h2;walk_at "rd";refine a0 rh T.aN T.ig rf.number ⟨az (by decide),fun t ht=>vW (gG.of af) rfl rfl ?_⟩;have st:=aj (o:=.tup [iv d.kind.num,V.int 255]) ht;have e:=HP num d.kind.num 255;walk_at "rd";show if (zA (iv num) [iv d.kind.num,iv 255])=true then _ else _
  rw[e];simp only[eD];exact aS (fun h=>h4 (KO h) _ _ st (h2.same st)) fun h=>h5 (Kl h) _ st
 .rw[List.map_id]at hp1;have hp1:Paired (Rec c H1) acc (NM.asks num ls):=hp1;have hal2:=Paired.length hp1;have hask:(NM.asks num ls).length<=ls.length:=List.length_filter_le _ _;have hDa:D≠a:=fun z=>by obtain⟨dx,fs,h1,_⟩:=hF.ins;subst z;rw[h1]at hD;cases hD
  have hDla:D≠la:=fun z=>by obtain⟨vsA,h1,_⟩:=hF.lst;subst z;rw[h1]at hD;cases hD
  have hF1:=hF.same s1;have sb1:=sb.trans s1;have fin:∀(H2:Hp) (au2:List NM.Pair),ar Hb H2->Fd c H2 a la code own an au2->H2 D=some (.lst acc)->Paired (Rec c H2) acc (NM.asks num ls)->(∀H',ar Hb H'->Fd c H' a la code own (an++(NM.asks num ls).map fun q=>(n,q)) au2->Q .non H') ->
    ∀(kk:VK),(∀H',Q .non H'->kk .non H')->dM K ("answers":Str) H2 a fun x H3=>AX K "list" x H3/\(∃xs,aY K H3 D xs)/\∀D_1,H3 D_1=none->Dx (xE K D) (mh 6) A9 (FO (vM (z8 1) (vM (z8 6) vJ))) [6] [some v,some u,some (V.ref l),some (iv num),some (V.ref a),some (V.ref D),none] H3 (fun x_1 H4=>ug x [x_1] H4 kk) D_1:=by
   intro H2 au2 sb2 hF2 hD2 hp2 q2 kk hkk;refine hF2.fldA T ?_;obtain⟨vsA,hla,hlaL⟩:=hF2.lst;refine⟨oX hla,⟨_,aY.of hD2⟩,fun D2 hD3=>?_⟩;refine ja (Walk.l (aY.of hD2)) (R:=Rec c) (S:=Pr c) hp2 (fun _ _ _ _ s r=>r.same s) (fun _ _ _ _ s r=>r.lk s) (fun q=>(n,q)) (by lia) hD3 (fun i d x H' k2 h1 h2 h3 h4=>?_) fun acc2 H4 ha4 hp4 s4=>?_
   .walk_at "rd";refine⟨az (by decide),fun t ht=>h4 _ _ (aj ht) (Pr.new ht (hN.same (sb2.trans h3)) h2)⟩
   .have hD2la:D2≠la:=fun z=>by subst z;rw[hla]at hD3;cases hD3
    have l4:=Paired.length hp4;rw[Kk]at l4;refine wI (s4 _ _ hla) ha4 (by lia) (hkk _ (q2 _ ?_ ((hF2.same s4).app (s4 _ _ hla) hp4)));exact a8 (sb2.trans s4) hbl
  walk_at "rd";refine cD (aY.of ha) ?_;walk_at "rd";refine aS (fun hz=>?_) fun hz=>?_
  .have e0:NM.asks num ls=[]:=List.length_eq_zero_iff.mp (by lia);rw[JX e0]at q;refine⟨v,o,xs,p,r,rfl,hZ.same sb1,hlx,hp,fun l2 H2 hl2 s2 hL=>?_⟩;obtain⟨l2',vs2,e2,hl2',hp2⟩:=hL;cases e2;have hne:la≠l2:=fun z=>by obtain⟨vsA,h1,_⟩:=hF1.lst;subst z;rw[h1]at hl2;cases hl2
   refine(hF1.same s2).setAuth T hl2' hp2 hne fun H3 k3 hF3=>?_;have sw:=o4 k3;walk_at "rd";refine fin H3 _ (g9 (sb1.trans s2) hba k3) hF3 (by rw[k3 D hDa];exact s2 _ _ ha) ?_ q _ fun _ h=>h;exact Paired.imp (fun _ _ r=>Rec.same r sw) ((hF1.same s2).recs (Paired.imp (fun _ _ r=>Rec.same r s2) hp1))
  .have e0:NM.asks num ls≠[]:=fun z=>hz (by rw[z,J7]at hal2;lia);rw[JU e0]at q;exact fin H1 au sb1 hF1 ha hp1 q _ fun _ h=>h
end
section
theorem Nm.ref(h:Nm H v n):∃b,v = .ref b:=let ⟨_,⟨b,e,_⟩,_⟩:=h;⟨b,e⟩
theorem Kn.same(h:Kn c H)(s:ar H H'):Kn c H':=let ⟨o,h⟩:=h;⟨o,s _ _ h⟩
inductive DQ (c:As) (vs:List V) (H:Hp) (Q:VK) (E:XK):Prop
 |mk (v u:V) (a la:Addr) (n o:List (List Nat)) (num:Nat) (xs:List NM.PR) (fs:List NM.Pair) (Hb:Hp) (_:vs=[v,u,iv num,.ref a]) (_:ar Hb H) (_:Hb a=none) (_:Hb la=none) (_:Zn c Hb v o xs) (_:xs.length<=70000) (_:Nm Hb u n) (_:n.length<=100000) (_:Sn12.under n o=true) (_:gU o xs) (_:(∀p∈xs,NM.Wf p.kind p.said)) (_:nW c Hb) (_:Kn c Hb) (_:Fd c H a la 0 true fs []) (_:fs.length<16) (_:∀v' H',ar Hb H'->IC H' v' (NM.lead o xs num n fs).next->Fd c H' a la (NM.lead o xs num n fs).code (NM.lead o xs num n fs).own (NM.lead o xs num n fs).an (NM.lead o xs num n fs).au->Q v' H')
theorem Cz{xs:List NM.PR}{l:List NM.PR}(h:NM.here o xs n=some l):l.length<=xs.length:=by
 unfold NM.here at h;split at h
 .cases h;exact kB
 .split at h
  .cases h;exact kB
  .cases h
theorem jX(T:Top K mg base c):gz P w K mg base "look_up_and_lead_on" 6 ["zone","name","asked_number","finding"] (DQ c):=by
 have g:=T.g;refine T.kf.cl ["zone","name","asked_number","finding","cut","records","aliases","record"] ?_;rintro nd _ _ _ _ _ H _ Q E hr ⟨v,u,a,la,n,o,num,xs,fs,Hb,rfl,sb,hba,hbl,hZ,hlx,hN,hnl,hu,hsv,hwf,hst,hkn,hF,hfl,q⟩;refine⟨_,(ae (sS 4 nd (fI (pv 0) (lT T) T.cM (hr.mono (by decide)) aq (aa (pv 1) ag)))
  (ae (aR (ie (zp (pv 4))) (ae (cK (pv 3) (gh (own:=[("record",7)]) aq rfl rfl rfl nd (cG (fI (pv 0) (cQ T) T.cM (hr.mono (by decide)) aq (aa (pv 4) (aa fB ag)))) (cP (by kernel_rfl)) (fun _ _ _ _ _ _ hA=>(gN 7 nd)) (fun _ _ _ _ _ _ hA=>fE) (fun _ _ _ _ _ _ hA=>(bM (aa (pv 4) (aa (pv 7) ag))))) rfl)
  (ae (cK (pv 3) (lH iP (gL T (pD T (pv 3))) ak (oy _)) rfl)
  (ah (ay gK)))) aB)
  (ae (sS 5 nd (fI (pv 0) (gp T) T.cM (hr.mono (by decide)) aq (aa (pv 1) ag)))
  (ae (aR (ie (um (pv 5))) (ae (cK (pv 3) (aQ g.vh) rfl)
  (ae (cK (pv 3) (pF (jx T) hr aq (aa (pv 0) ag)) rfl)
  (ah (ay gK)))) aB)
  (ae (om (i:=6) (own:=[("record",7)]) aq rfl rfl rfl nd rfl rfl (tW rfl rfl rfl (by kernel_rfl)) (cG (pv 5)) (cP (by kernel_rfl)) (fun _ _ _ _ _ _ hA=>(gN 7 nd)) (fun _ _ _ _ _ _ hA=>(pW (tR d4 (pD T (pv 7)) fB))) (fun _ _ _ _ _ _ hA=>(pv 7)))
  (ae (aR (PW.pt (jT (tR iP (gL T (pv 6)) ak) (iC (mV (sW (K:=K) rfl) (pv 2) (bM (aa (pX (dZ hr) (iD (v:=V.ref c.kn) rfl T.j5 rfl) fB (fun _ _=>rfl)) (aa (aQ g.rP) ag))) (by with_unfolding_all rfl))))) (ae (aM (fo Ka KJ KI fz (pD T (pv 3)) (aa (bM (aa (pv 1) (aa (xL cH (pv 6) ak) ag))) ag)))
  (ah (ay (iO (tR kD (gL T (pD T (pv 3))) (aQ g.vj)) (xL dG (pD T (xL cH (pv 6) ak)) ak) gK)))) aB)
  (ae (aM (pF (rZ T) hr aq (aa (pv 0) (aa (pv 1) (aa (pv 5) (aa (pv 2) (aa (pv 3) ag)))))))
  (ah (ay gK))))))))),?_⟩
 obtain⟨za,rfl,hi⟩:=hZ.ins;obtain⟨psoa,hsoa⟩:=hsv.soaOne;walk_at "rd";refine⟨(hi _ (by decide +kernel) (by decide +kernel) (by decide +kernel)).same sb,.ref za,u,o,xs,n,rfl,hZ.same sb,hlx,hN.same sb,hnl,hu,fun v1 H1 s1 r1=>?_⟩;have sb1:=sb.trans s1;have hF1:=hF.same s1;cases hc:(NM.zn o xs).cut n with
 |some cn =>
  rw[hc]at r1;have r1:Nm H1 v1 cn:=r1;have eL:NM.lead o xs num n fs=⟨none,0,!fs.isEmpty,fs,(fF xs cn .NS).map fun p=>(cn,p)⟩:=by unfold NM.lead;rw[hc]
  rw[eL]at q;obtain⟨b1,rfl⟩:=r1.ref;walk_at "rd";refine⟨(hi _ (by decide +kernel) (by decide +kernel) (by decide +kernel)).same sb1,.ref za,.ref b1,o,xs,cn,.NS,rfl,hZ.same sb1,r1,hlx,fun v2 H2 s2 hL=>?_⟩;obtain⟨l2,vs2,rfl,hl2,hp2⟩:=hL;refine⟨⟨_,aY.of hl2⟩,fun D hD=>?_⟩;have hlen2:(fF xs cn .NS).length<=xs.length:=KH (List.length_filter_le _ _) kB;refine ja (Walk.l (aY.of hl2)) (R:=Rec c) (S:=Pr c) hp2 (fun _ _ _ _ s r=>r.same s) (fun _ _ _ _ s r=>r.lk s) (fun p=>(cn,p)) (by lia) hD (fun i d x H' k2 h1 h2 h3 h4=>?_) fun acc H3 ha hp3 s3=>?_
  .walk_at "rd";refine⟨az (by decide),fun t ht=>h4 _ _ (aj ht) (Pr.new ht (r1.same (s2.trans h3)) h2)⟩
  .walk_at "rd";have hF3:=hF1.same (s2.trans s3);have hne:la≠D:=fun z=>by obtain⟨vsA,h1,_⟩:=(hF1.same s2).lst;subst z;rw[h1]at hD;cases hD
   refine hF3.setAuth T ha hp3 hne fun H4 k4 hF4=>?_;walk_at "rd";refine hF4.len T ?_;walk_at "rd";refine hF4.setOwn (k:=decide ((0:Int)<(fs.length:Int))) T fun H5 k5 hF5=>?_;walk_at "rd";refine q _ _ (g9 (g9 ((sb1.trans s2).trans s3) hba k4) hba k5) rfl ?_;have e:decide ((0:Int)<(fs.length:Int))=!fs.isEmpty:=by
    cases fs with
    |nil=>rfl
    |cons x r=>rw[KO (by rw[JS];lia)];rfl
   rw[e]at hF5;exact hF5
 |none =>
  rw[hc]at r1;obtain rfl:v1 = .non:=r1;walk_at "rd";refine⟨(hi _ (by decide +kernel) (by decide +kernel) (by decide +kernel)).same sb1,.ref za,u,o,xs,n,rfl,hZ.same sb1,hN.same sb1,hnl,hu,hsv.has,hst.same sb1,fun v2 H2 s2 r2=>?_⟩;have sb2:=sb1.trans s2;have hF2:=hF1.same s2;cases hh:NM.here o xs n with
  |none =>
   rw[hh]at r2;obtain rfl:v2 = .non:=r2;have eL:NM.lead o xs num n fs=⟨none,3,true,fs,(fF xs o .SOA).map fun p=>(o,p)⟩:=by unfold NM.lead;rw[hc];dsimp only;rw[hh]
   rw[eL,hsoa]at q;walk_at "rd";refine hF2.setCode (k:=3) T fun H3 k3 hF3=>?_;have sb3:=g9 sb2 hba k3;walk_at "rd";refine⟨.ref za,o,xs,psoa,[],rfl,hZ.same sb3,hlx,hsoa,fun l4 H4 hl4 s4 hL=>?_⟩;obtain⟨l4',vs4,e4,hl4',hp4⟩:=hL;cases e4;have hne:la≠l4:=fun z=>by obtain⟨vsA,h1,_⟩:=hF3.lst;subst z;rw[h1]at hl4;cases hl4
   refine(hF3.same s4).setAuth T hl4' hp4 hne fun H5 k5 hF5=>?_;walk_at "rd";exact q _ _ (g9 (sb3.trans s4) hba k5) rfl hF5
  |some l =>
   rw[hh]at r2;obtain⟨lr,ws,rfl,hlr,hpr⟩:=r2;have hll:=Cz hh;walk_at "rd";refine⟨⟨_,aY.of hlr⟩,fun D hD=>?_⟩;refine j0 (Walk.l (aY.of hlr)) (R:=Rec c) (S:=Rec c) hpr (fun _ _ _ _ s r=>r.same s) (fun _ _ _ _ s r=>r.lk s) fh id (by lia) hD (fun i d x H' kk kn h1 h2 h3 h4 h5=>?_) fun acc H3 ha hp3 s3=>?_
   .obtain⟨ra,rdx,rfs,rfl,rh,rf⟩:=id h2;walk_at "rd";refine a0 rh T.aN T.cW rf.kind ?_;walk_at "rd";exact aS (fun h=>h4 (KO (jl (b:= .CNAME) h)) _ _ (ar.refl _) h2) fun h=>h5 (Kl fun z=>h (by rw[z])) _ (ar.refl _)
   .rw[List.map_id]at hp3;have hal:=Paired.length hp3;have sb3:=sb2.trans s3;have hF3:=hF2.same s3;have hDla:D≠la:=fun z=>by obtain⟨vsA,h1,_⟩:=hF2.lst;subst z;rw[h1]at hD;cases hD
    walk_at "rd";refine cD (aY.of ha) ?_;walk_at "rd";have take:(l.filter fh=[]\/fG num=false)->∀H4,ar H3 H4->yZ c [.ref za,u,.ref lr,iv num,.ref a] H4 (fun _ H5=>Q .non H5) E:=fun hno H4 s4=>by
     have eL:NM.lead o xs num n fs=⟨none,0,true,fs++(NM.asks num l).map fun p=>(n,p),if NM.asks num l=[] then(fF xs o .SOA).map fun p=>(o,p) else []⟩:=by
      unfold NM.lead;rw[hc];dsimp only;rw[hh];dsimp only;rcases hno with z|z
      .rw[z]
      .rw[z];cases l.filter fh<;>rfl
     rw[eL,hsoa]at q;exact⟨.ref za,u,lr,a,la,ws,n,o,num,0,true,xs,l,psoa,[],fs,[],Hb,rfl,sb3.trans s4,hba,hbl,hZ,hlx,hN,(s3.trans s4) _ _ hlr,Paired.imp (fun _ _ r=>Rec.same r (s3.trans s4)) hpr,hsoa,hF3.same s4,by lia,by lia,fun H5 s5 hF5=>q _ _ s5 rfl hF5⟩
    refine aS (fun hpos=>?_) fun hpos=>take (.inl (List.length_eq_zero_iff.mp (by lia))) _ (ar.refl _);obtain⟨ko,hK⟩:=hkn.same sb3;refine⟨iv NM.Kd.CNAME.num,.inl ⟨AY,.inr (kS .CNAME),.inr ⟨ko,hK⟩,rfl,(Cn _).symm⟩,⟨az (by decide),fun t ht=>vW (gG.of af) rfl rfl ?_⟩⟩;have st:=aj (o:=.tup [iv NM.Kd.CNAME.num,V.int 255]) ht;have e5:=HP num NM.Kd.CNAME.num 255;walk_at "rd";show if (!(zA (iv num) [iv NM.Kd.CNAME.num,iv 255]))=true then _ else _
    rw[e5];simp only[cU];refine aS (fun hfo=>?_) fun hfo=>take (.inr ?_) _ st
    .have hfo2:fG num=true:=by
      unfold fG;have h1:num≠5:=fun z=>hfo (.inl z);have h2:num≠255:=fun z=>hfo (.inr z);simp[h1,h2]
     cases hfi:l.filter fh with
     |nil=>rw[hfi]at hal;rw[J7]at hal;lia
     |cons p r =>
      rw[hfi]at hp3;obtain⟨x0,acc',rfl,hr0⟩:∃x0 acc',acc=x0::acc'/\Rec c H3 x0 p:=by
       cases hp3 with
       |cons r t=>exact⟨_,_,rfl,r⟩
      have eL:NM.lead o xs num n fs=⟨if fs.length+1<16 then p.said.names.head? else none,0,true,fs++[(n,p)],[]⟩:=by
       unfold NM.lead;rw[hc];dsimp only;rw[hh];dsimp only;rw[hfi,hfo2]
      rw[eL]at q;have hpm:p∈l.filter fh:=by rw[hfi];exact J8
      obtain⟨hpl,hpk⟩:=Lb.mp hpm;have hk5:p.kind = .CNAME:=of_decide_eq_true hpk;have hw:=hwf p (rm hh p hpl);rw[hk5]at hw;have hl1:p.said.names.length=1:=hw.2.2;have hF4:=hF3.same st;refine hF4.fldA T ?_;obtain⟨vsA,hla,hlaL⟩:=hF4.lst;refine⟨oX hla,?_⟩;refine dP (aY.of (st _ _ ha)) (v:=x0) (bG (j:=0) rfl) ⟨az (by decide),fun t2 ht2=>?_⟩;have st2:=aj (o:=.tup [u,x0]) ht2;refine goApp (st2 _ _ hla) (by lia) ?_;have hpn:Pr c (upd (upd H3 t (.tup [iv NM.Kd.CNAME.num,V.int 255])) t2 (.tup [u,x0])) (.ref t2) (n,p):=Pr.new ht2 (hN.same (sb3.trans st)) (hr0.same st);have hF5:=(hF4.same st2).app (st2 _ _ hla) (ys:=[.ref t2]) (bn:=[(n,p)]) (.cons hpn .nil);have hr5:Rec c (upd (upd (upd H3 t (.tup [iv NM.Kd.CNAME.num,V.int 255])) t2 (.tup [u,x0])) la (.lst (vsA++[.ref t2]))) x0 p:=(hr0.same (st.trans st2)).lk (jZ (st2 _ _ hla));have hD5:(upd (upd (upd H3 t (.tup [iv NM.Kd.CNAME.num,V.int 255])) t2 (.tup [u,x0])) la (.lst (vsA++[.ref t2]))) D=some (.lst (x0::acc')):=by rw[ai hDla];exact(st.trans st2) _ _ ha
      have sb5:ar Hb (upd (upd (upd H3 t (.tup [iv NM.Kd.CNAME.num,V.int 255])) t2 (.tup [u,x0])) la (.lst (vsA++[.ref t2]))):=a8 ((sb3.trans st).trans st2) hbl;generalize upd (upd (upd H3 t (.tup [iv NM.Kd.CNAME.num,V.int 255])) t2 (.tup [u,x0])) la (.lst (vsA++[.ref t2]))=H5 at hF5 hr5 hD5 sb5;walk_at "rd";refine hF5.len T ?_;walk_at "rd";rw[JT,JS,J7];refine aS (fun hlt=>?_) fun hlt=>?_
      .rw[JX (by lia)]at q;refine dP (aY.of hD5) (v:=x0) (bG (j:=0) rfl) ?_;obtain⟨ra,rdx,rfs,rfl,rh,rf⟩:=id hr5;obtain⟨vn,en,⟨vns,⟨an,rfl,hrn⟩,pns⟩⟩:=rf.names;walk_at "rd";refine a0 rh T.aN T.fL en ?_
       match hns:p.said.names,hl1 with
       |[t0],_ =>
        rw[hns]at pns q;obtain⟨y0,rfl,hy0⟩:∃y0,vns=[y0]/\Nm H5 y0 t0:=by
         cases pns with
         |cons r t=>cases t;exact⟨_,rfl,r⟩
        refine cT (.inl hrn) (v:=y0) (bG (j:=0) rfl) ?_;exact q _ _ sb5 hy0 hF5
      .rw[JU (by lia)]at q;exact q _ _ sb5 rfl hF5
    .have:num=5\/num=255:=Classical.not_not.mp hfo;unfold fG;rcases this with z|z<;>subst z<;>rfl
end
section
theorem El{xs:List NM.PR}{num:Nat}{fs:List NM.Pair}:(NM.lead o xs num n fs).au.length<=xs.length:=by
 have ofl:∀(m:List (List Nat)) (k:NM.Kd),(fF xs m k).length<=xs.length:=fun m k=>KH (List.length_filter_le _ _) kB;have l1:=ofl o .SOA;have last:∀l:List NM.PR,(if NM.asks num l=[] then(fF xs o .SOA).map fun p=>(o,p) else []).length<=xs.length:=fun l=>by
  split
  .rw[Kk];exact l1
  .simp
 unfold NM.lead;split
 .rename_i cn _;show(List.map _ _).length<=_;rw[Kk];exact ofl cn .NS
 .split
  .show(List.map _ _).length<=_;rw[Kk];exact l1
  .rename_i l _;cases l.filter fh with
   |nil=>exact last l
   |cons p r =>
    cases fG num with
    |false=>exact last l
    |true=>exact Kq _
theorem Ek{xs:List NM.PR}{num:Nat}{t:List (List Nat)}{fs:List NM.Pair}(h:(NM.lead o xs num n fs).next=some t):(NM.lead o xs num n fs).code=0/\(NM.lead o xs num n fs).own=true/\(NM.lead o xs num n fs).au=[]/\(NM.lead o xs num n fs).an.length=fs.length+1/\fs.length+1<16:=by
 unfold NM.lead at h ⊢;split at h
 .cases h
 .split at h
  .cases h
  .rename_i l _;revert h;cases l.filter fh with
   |nil=>intro h;cases h
   |cons p r =>
    cases fG num with
    |false=>intro h;cases h
    |true =>
     intro h;dsimp only at h ⊢;refine⟨rfl,rfl,rfl,by rw[JT];rfl,?_⟩;rcases Nat.lt_or_ge (fs.length+1) 16 with z|z
     .exact z
     .rw[JU (by lia)]at h;cases h
structure oU (c:As) (H:Hp) (v:V) (o:List (List Nat)) (xs:List NM.PR):Prop where
 zn:Zn c H v o xs
 few:xs.length<=70000
 sz:Sn12.size o<=255
 sv:gU o xs
 wf:∀p∈xs,NM.Wf p.kind p.said
 sm:∀p∈xs,NM.Small p
 st:nW c H
 kn:Kn c H
theorem oU.same{xs:List NM.PR}(h:oU c H v o xs)(s:ar H H'):oU c H' v o xs:=⟨h.zn.same s,h.few,h.sz,h.sv,h.wf,h.sm,h.st.same s,h.kn.same s⟩
inductive DP (c:As) (vs:List V) (H:Hp) (Q:VK) (E:XK):Prop
 |mk (v u:V) (n o:List (List Nat)) (num:Nat) (xs:List NM.PR) (_:vs=[v,u,iv num]) (_:oU c H v o xs) (_:Nm H u n) (_:Sn12.size n<=255) (_:∀(a la:Addr) (code:Nat) (own:Bool) (an au:List NM.Pair) (H':Hp),ar H H'->H a=none->H la=none->Fd c H' a la code own an au->(NM.zn o xs).look num 16 [] n []=⟨code,own,an.map ax,au.map ax⟩->(∀q∈an++au,Sn12.size q.1<=255/\q.2∈xs)->an.length<=xs.length+17->au.length<=xs.length->Q (.ref a) H')
theorem E7{u:HO}(h:H a=some u)(h1:∀xs,u ≠ .tup xs)(h2:∀o xs,u ≠ .frz o (.tup xs)):Tk H (wo H a) :=
 ⟨fun b xs e=>by rw[aZ (bH e h (h1 xs).symm)];exact e,fun b o xs e=>by rw[aZ (bH e h (h2 o xs).symm)];exact e⟩
theorem Tk.trans(a:Tk H H1)(b:Tk H1 H2):Tk H H2:=⟨fun x xs e=>b.1 _ _ (a.1 _ _ e),fun x o xs e=>b.2 _ _ _ (a.2 _ _ _ e)⟩
inductive JG (c:As) (H:Hp) (v u:V) (o:List (List Nat)) (num:Nat) (xs:List NM.PR) (a la d:Addr) (L:Sn12.Reply) (m:Nat) (σ:St) (H':Hp):Prop
 |mk (v2:V) (nx:Option (List (List Nat))) (fs au:List NM.Pair) (code:Nat) (own:Bool) (kvs:List (KD×V)) (ds seen:List (List (List Nat))) (_:σ=[some v,some u,some (iv num),some (.ref a),some (.ref d),some v2]) (_:ar H H') (_:Fd c H' a la code own fs au) (_:H' d=some (.dT kvs)) (_:Dc kN (fun _ _=>True) kvs ds) (_:(∀x,x∈ds↔x∈seen)) (_:IC H' v2 nx) (_:(∀q∈fs++au,Sn12.size q.1<=255/\q.2∈xs)) (_:ds.length<=17) (_:((nx=none/\L=⟨code,own,fs.map ax,au.map ax⟩/\fs.length<=xs.length+17/\au.length<=xs.length)\/∃t,nx=some t/\code=0/\own=true/\au=[]/\1<=m/\fs.length+m=16/\ds.length<=fs.length/\Sn12.size t<=255/\L=(NM.zn o xs).look num m seen t (fs.map ax)))
theorem yl(T:Top K mg base c):gz P w K mg base "look_up" 7 ["zone","asked_name","asked_number"] (DP c):=by
 refine T.AR.cl ["zone","asked_name","asked_number","finding","looked_up","name"] ?_;rintro nd _ _ _ _ _ H _ Q E hr ⟨v,u,n,o,num,xs,rfl,hO,hN,hns,q⟩;refine⟨_,(ae (sS 3 nd (BU (lW T) T.Ay (hr.mono (by decide)) aq))
  (ae (sS 4 nd kA)
  (ae (sS 5 nd (pv 1))
  (ae (hU aA (ie (zp (pv 5))) (ae (aR (PW.pt (o5 (ie (uo (dZ hr) (pv 5) (pv 4))) (kx (jV (jU (pF (nh T) hr aq (aa (pv 5) (aa (pD T (pv 0)) ag)))))))) (ae (aM (pF (qL T) hr aq (aa (pv 3) ag)))
  (ah (ay (pv 3)))) aB)
  (ae (ui (dZ hr) (pv 4) (pv 5) mY rfl)
  (ah (sS 5 nd (pF (jX T) hr aq (aa (pv 0) (aa (pv 5) (aa (pv 2) (aa (pv 3) ag))))))))))
  (ah (ay (pv 3))))))),?_⟩
 obtain⟨hZ,hlx,hos,hsv,hwf,hsm,hst,hkn⟩:=id hO;walk_at "rd";intro a dx ha hdx hne;have sx:ar H (upd (upd H dx (.own a)) a (.ins c.CF dx [])):=(aj hdx).trans (aj (by rw[ai (Ne.symm hne)];exact ha));generalize hH1:upd (upd H dx (.own a)) a (.ins c.CF dx [])=H1 at sx;have h1a:H1 a=some (.ins c.CF dx []):=by rw[<-hH1,af]
 clear hH1;have swo:ar H (wo H1 a):=ik sx ha;refine⟨a,dx,rfl,h1a,fun H2 la s2 hla1 hF2=>⟨rfl,?_⟩⟩;have hla:H la=none:=by
  cases hz:H la with
  |none=>rfl
  |some ob=>have:=sx _ _ hz;rw[hla1]at this;cases this
 have s02:=swo.trans s2;walk_at "rd";intro d hd;have hda:d≠a:=fun z=>by obtain⟨dx',fs',h1,_⟩:=hF2.ins;subst z;rw[h1]at hd;cases hd
 have hdl:d≠la:=fun z=>by obtain⟨vsA,h1,_⟩:=hF2.lst;subst z;rw[h1]at hd;cases hd
 have hd0:H d=none:=by
  cases hz:H d with
  |none=>rfl
  |some ob=>have:=s02 _ _ hz;rw[hd]at this;cases this
 have s3:=aj (o:=.dT []) hd;generalize hL:(NM.zn o xs).look num 16 [] n []=L at q;refine oZ (JG c H v u o num xs a la d L) 16
  ⟨u,some n,[],[],0,true,[],[],[],rfl,s02.trans s3,hF2.same s3,af,.nil,fun x=>Iff.rfl,hN.same (s02.trans s3),fun q hq=>(nomatch hq),Kq _,.inr ⟨n,rfl,rfl,rfl,rfl,by decide,rfl,JY _,hns,hL.symm⟩⟩ ?_
 rintro m σ H4 ⟨v2,nx,fs,au,code,own,kvs,ds,seen,rfl,s4,hF4,h4d,dc,hds,nm2,hq4,hdl17,hcase⟩;walk_at "rd";rcases hcase with⟨rfl,eL,l1,l2⟩|⟨t,rfl,rfl,rfl,rfl,hm1,hfm,hdsl,hts,eL⟩
 .obtain rfl:v2 = .non:=nm2;walk_at "rd";exact q a la code own fs au H4 s4 ha hla hF4 eL hq4 l1 l2
 .have nm2:Nm H4 v2 t:=nm2;obtain⟨b2,rfl⟩:=nm2.ref;obtain⟨k,rfl⟩:∃k,m=k+1:=⟨m-1,by lia⟩
  walk_at "rd";obtain⟨zd,za,zdx,zfs,rfl,hz,zf⟩:=id hZ;obtain⟨vo,eo,no⟩:=zf.origin;refine⟨_,fun σ' H' h=>h,?_⟩;have hend:(t∈seen\/Sn12.under t o=false)->∀H5,ar H4 H5->BC c [.ref a] H5 (fun _ H6=>Q (.ref a) H6) E:=fun hout H5 s5=>by
   refine⟨a,la,0,true,fs,[],H,rfl,hF4.same s5,s4.trans s5,ha,fun H6 s6 hF6=>?_⟩;have e6:=Cg (o:=o) (xs:=xs) (type:=num) (k:=k) (seen:=seen) (n:=t) (found:=fs.map ax) hout.symm;rw[e6]at eL;refine q a la _ _ fs [] H6 s6 ha hla hF6 ?_ (by rw[Kw]at hq4 ⊢;exact hq4) (by lia) (Kq _);rw[eL];cases fs with
   |nil=>rfl
   |cons x r=>rfl
  refine wK (.inl h4d) dc nm2 fun oo ho=>?_;rw[ho];simp only[eD];refine aS (fun hin=>hend (.inl ((hds t).mp hin)) _ (ar.refl _)) fun hin=>?_;refine a0 (s4 _ _ hz) T.cM T.eB eo ?_;refine⟨.ref b2,vo,t,o,rfl,nm2,no.same s4,fun H5 s5=>?_⟩;walk_at "rd";cases hun:Sn12.under t o with
  |false =>
   walk_at "rd";exact hend (.inr hun) _ s5
  |true =>
   walk_at "rd";have hin2:t∉seen:=fun z=>hin ((hds t).mpr z);have hkl:=dc.len;refine uQ (s5 _ _ h4d) (nm2.same s5) (by lia) ?_;obtain⟨_,dc6⟩:=dc.new (v:=.bl true) gu hin True.intro;generalize hH6:upd H5 d (.dT (putK kvs (kN t) (.bl true)))=H6;have k6:∀b,b≠d->H6 b=H5 b:=fun b hb=>by rw[<-hH6,ai hb]
   have h6d:H6 d=some (.dT (putK kvs (kN t) (.bl true))):=by rw[<-hH6,af]
   have rk6:Rk H5 H6:=by rw[<-hH6];exact Fs (s5 _ _ h4d)
   have s06:ar H H6:=g9 (s4.trans s5) hd0 k6;clear hH6;have hF5:=hF4.same s5;have hF6:Fd c H6 a la 0 true fs []:=by
    have swo6:Rk (wo H5 a) (wo H6 a):=fun b ob eb n1 n2=>by
     have hb:b≠a:=fun z=>by subst z;rw[cF]at eb;cases eb
     rw[aZ hb]at eb ⊢;exact rk6 _ _ eb n1 n2
    obtain⟨dx',fs',lu,vsA,vsU,h1,f,h2,p1,h3,p2,ne⟩:=hF5;have hdlu:lu≠d:=bH h3 (s5 _ _ h4d) (by simp);refine⟨dx',fs',lu,vsA,vsU,by rw[k6 a (Ne.symm hda)];exact h1,f,by rw[k6 la (Ne.symm hdl)];exact h2,Paired.imp (fun v q ⟨x,y,t,n,r⟩=>⟨x,y,swo6.tk.tp t,swo6.tk.nm n,r.rk swo6⟩) p1,by rw[k6 lu hdlu];exact h3,Paired.imp (fun v q ⟨x,y,t,n,r⟩=>⟨x,y,swo6.tk.tp t,swo6.tk.nm n,r.rk swo6⟩) p2,ne⟩
   obtain⟨dxa,fsa,h6a,_⟩:=hF6.ins;obtain⟨vsA,h6l,_⟩:=hF6.lst;have hala:la≠a:=bH h6l h6a (by simp);have sHb:ar H (wo (wo H6 a) la):=ik (ik s06 ha) hla;have sb:ar (wo (wo H6 a) la) H6:=fD.trans fD;have nmb:Nm (wo (wo H6 a) la) (.ref b2) t:=(((uc s5).trans rk6).tk.trans ((E7 h6a (by simp) (by simp)).trans (E7 (by rw[aZ hala];exact h6l) (by simp) (by simp)))).nm nm2;have tl:=fJ t;walk_at "rd";refine⟨.ref za,.ref b2,a,la,t,o,num,xs,fs,wo (wo H6 a) la,rfl,sb,by rw[aZ (Ne.symm hala),cF],cF,hZ.same sHb,hlx,nmb,by lia,hun,hsv,hwf,hst.same sHb,hkn.same sHb,hF6,by lia,fun v7 H7 s7 nm7 hF7=>?_⟩;have h7d:H7 d=some (.dT (putK kvs (kN t) (.bl true))):=s7 _ _ (by rw[aZ hdl,aZ hda];exact h6d);have hlk:=AA (o:=o) (xs:=xs) (type:=num) (k:=k) (seen:=seen) (n:=t) (fs:=fs) hun hin2 hwf (by lia);obtain⟨g1,g2,g3⟩:=yt (o:=o) (xs:=xs) (type:=num) (n:=t) (fs:=fs) hos hts hsm (by rw[Kw]at hq4;exact hq4);rw[hlk]at eL;have hds7:∀x,x∈ds++[t]↔x∈t::seen:=fun x=>by
    rw[Kj,List.mem_singleton,Kg,hds];exact⟨fun z=>z.symm,fun z=>z.symm⟩
   cases hnx:(NM.lead o xs num t fs).next with
   |none =>
    rw[hnx]at nm7 eL;exact⟨0,by lia,v7,none,_,_,_,_,_,ds++[t],t::seen,rfl,sHb.trans s7,hF7,h7d,dc6,hds7,nm7,g2,by rw[JT,JS,J7];lia,.inl ⟨rfl,eL,by lia,El⟩⟩
   |some t2 =>
    rw[hnx]at nm7 eL;obtain⟨z1,z2,z3,z4,z5⟩:=Ek hnx;rw[z1,z2,z3]at hF7;rw[z3]at g2;exact⟨k,by lia,v7,some t2,_,[],0,true,_,ds++[t],t::seen,rfl,sHb.trans s7,hF7,h7d,dc6,hds7,nm7,g2,by rw[JT,JS,J7];lia,.inr ⟨t2,rfl,rfl,rfl,rfl,by lia,by lia,by rw[JT,JS,J7];lia,g1 t2 hnx,eL⟩⟩
end
section
theorem Dc.put{ds:List (List (List Nat))}(h:Dc kN (fun _ _=>True) kvs ds):Dc kN (fun _ _=>True) (putK kvs (kN n) v) (aF ds n):=by
 by_cases hn:n∈ds
 .rw[ur hn];unfold putK;split
  .have:∀{kvs:List (KD×V)} {ds:List (List (List Nat))},Dc kN (fun _ _=>True) kvs ds->Dc kN (fun _ _=>True) (kvs.map fun kv=>if kv.1=kN n then(kv.1,v) else kv) ds:=by
    intro kvs ds h;induction h with
    |nil=>exact .nil
    |cons r t ih =>
     refine .cons ⟨?_,True.intro⟩ ih;dsimp only;split
     .exact r.1
     .exact r.1
   exact this h
  .rename_i hz;obtain⟨x,e,_⟩:=h.some_of gu hn;rw[jt,e]at hz;exact absurd rfl hz
 .rw[m5 hn];exact(h.new gu hn True.intro).2
theorem IM(k:NM.Kd):zA (.str (kS k)) [.str (kS .NS),.str (kS .MX),.str (kS .SRV)]=nA k:=by
 cases k<;>decide +kernel
theorem oY{α:Type}{p q:α->Bool}(h:∀a,p a=true->q a=false):∀l:List α,(l.filter p).length+(l.filter q).length<=l.length
 |[]=>JY _
 |a::l=>by
  have ih:=oY h l;rw[List.filter_cons,List.filter_cons];cases hp:p a with
  |true=>rw[h a hp];simp only[if_true,KB,if_false,JS];lia
  |false =>
   simp only[KB,if_false];split
   .rw[JS,JS];lia
   .rw[JS];lia
theorem xp{xs:List NM.PR}:(fF xs n .A++fF xs n .AAAA).length<=xs.length:=by
 rw[JT];refine KH (oY (fun a h=>?_) (NM.own xs n)) kB;have:a.kind = .A:=of_decide_eq_true h;rw[this];rfl
theorem wm{xs:List NM.PR}:∀ns:List (List (List Nat)),(NM.more xs ns).length<=xs.length*ns.length
 |[]=>Kq _
 |n::ns=>by
  have ih:=wm (xs:=xs) ns;have:=xp (xs:=xs) (n:=n);unfold NM.more at ih ⊢;rw[K5,JT,Kk,JS,Nat.mul_add];lia
theorem Az{xs:List NM.PR}{ns:List (List (List Nat))}:NM.more xs (ns++[n])=NM.more xs ns++(fF xs n .A++fF xs n .AAAA).map fun p=>(n,p):=by
 unfold NM.more;rw[List.flatMap_append,K5,List.flatMap_nil,Kw]
theorem Cj{ps:List NM.Pair}:ip (ps++[q])=ip ps++if nA q.2.kind=true then q.2.said.names.head?.toList else []:=by
 unfold ip;rw[List.filter_append,List.filterMap_append];congr 1;by_cases h:nA q.2.kind=true
 .have e:[q].filter (fun q=>nA q.2.kind)=[q]:=by rw[List.filter_cons,JX h];rfl
  rw[JX h,e,KC];have e2:NM.target q.2=q.2.said.names.head?:=rfl;rw[e2];cases q.2.said.names.head?<;>rfl
 .have e:[q].filter (fun q=>nA q.2.kind)=[]:=by rw[List.filter_cons,JU h];rfl
  rw[JU h,e];rfl
theorem zw(ps:List NM.Pair):(ip ps).length<=ps.length:=KH (List.length_filterMap_le _ _) (List.length_filter_le _ _)
theorem Pr.updD{u o:HO}(h:Pr c H v q)(hd:H d=some u)(h1:∀xs,u ≠ .tup xs)(h2:∀o xs,u ≠ .frz o (.tup xs))(h3:∀C dx fs,u ≠ .ins C dx fs):Pr c (upd H d o) v q:=by
 have tk:Tk H (upd H d o):=Tk.upd hd h1 h2;obtain⟨x,y,t,n,⟨a,dx,fs,rfl,ha,⟨⟨v1,e1,n1⟩,k,nu,tt,⟨v2,e2,n2⟩,⟨v3,e3,n3⟩,⟨v4,e4,n4⟩⟩⟩⟩:=h;exact⟨x,_,tk.tp t,tk.nm n,a,dx,fs,rfl,by rw[ai (bH ha hd (h3 _ _ _).symm)];exact ha,⟨v1,e1,tk.nm n1⟩,k,nu,tt,⟨v2,e2,tk.bt n2⟩,⟨v3,e3,tk.ns n3⟩,⟨v4,e4,tk.bt n4⟩⟩
inductive oh (c:As) (vs:List V) (H:Hp) (Q:VK) (E:XK):Prop
 |mk (v:V) (a la:Addr) (code:Nat) (own:Bool) (an au:List NM.Pair) (o:List (List Nat)) (xs:List NM.PR) (_:vs=[v,.ref a]) (_:Zn c H v o xs) (_:xs.length<=2048) (_:Fd c H a la code own an au) (_:an.length<=xs.length+17) (_:au.length<=xs.length) (_:(∀q∈an++au,NM.Wf q.2.kind q.2.said)) (_:∀l H',H l=none->ar H H'->Ls (Pr c) H' (.ref l) (NM.more xs ((ip (an++au)).foldl aF []))->Q (.ref l) H')
inductive JF (H:Hp) (a:Addr) (an au:List NM.Pair) (za d:Addr) (σ:St) (H':Hp):Prop
 |mk (x y kvs:_) (_:σ=[some (.ref za),some (.ref a),some (.ref d),x,none,none,y,none]) (_:ar H H') (_:H' d=some (.dT kvs)) (_:Dc kN (fun _ _=>True) kvs ((ip (an++au)).foldl aF []))
inductive Jm (c:As) (H:Hp) (a:Addr) (xs:List NM.PR) (za d:Addr) (kvs:List (KD×V)) (ns:List Sn12.Name) (D:Addr) (od:Obj) (i:Nat) (σ:St) (H':Hp):Prop
 |mk (x y z w' ws:_) (_:σ=[some (.ref za),some (.ref a),some (.ref d),x,some (.ref D),y,z,w']) (_:ar H H') (_:H' d=some (.frz od (.dT kvs))) (_:H' D=some (.lst ws)) (_:Paired (Pr c H') ws (NM.more xs (ns.take i)))
theorem mz(T:Top K mg base c):gz P w K mg base "additional_ones" 3 ["zone","finding"] (oh c):=by
 have hk:=T.hk;refine T.nP.cl ["zone","finding","led_to","given","additional","name","record","addresses"] ?_;rintro nd _ _ _ _ _ H _ Q E hr ⟨v,a,la,code,own,an,au,o,xs,rfl,hZ,hlx,hF,hal,hul,hwf,q⟩;refine⟨_,(ae (sS 2 nd kA)
  (ae (d3 aA rfl (cG (aP kE (pD T (pv 1)) (pD T (pv 1)))) (gN 3 nd) (ae (sS 6 nd (xL dG (pv 3) ak))
  (ah (aR (mV (yh (K:=K) rfl) (pD T (pv 6)) (bM (aa fB (aa fB (aa fB ag)))) (by with_unfolding_all rfl)) (ah (ui (dZ hr) (pv 2) (xL dG (pD T (pv 6)) ak) mY rfl)) aB))))
  (ae (sS 4 nd (bN ag))
  (ae (zl (d3 aA rfl (zm (pv 2)) (gN 5 nd) (ae (sS 7 nd (aP kE (fI (pv 0) (cQ T) T.cM (hr.mono (by decide)) aq (aa (pv 5) (aa fB ag))) (fI (pv 0) (cQ T) T.cM (hr.mono (by decide)) aq (aa (pv 5) (aa fB ag)))))
  (ah (aM (fo Ka Ko Km jB (pv 4) (aa (gh (own:=[("record",6)]) aq rfl rfl rfl nd (cG (pv 7)) (cP (by kernel_rfl)) (fun _ _ _ _ _ _ hA=>(gN 6 nd)) (fun _ _ _ _ _ _ hA=>fE) (fun _ _ _ _ _ _ hA=>(bM (aa (pv 5) (aa (pv 6) ag))))) ag)))))))
  (ah (ay (pv 4))))))),?_⟩
 obtain⟨za,rfl,hi⟩:=hZ.ins;walk_at "rd";intro d hd;have s1:=aj (o:=.dT []) hd;obtain⟨dx,fs,lu,vsA,vsU,h1,f,h2,p1,h3,p2,ne⟩:=hF.same s1;have hpA:Paired (Pr c (upd H d (.dT []))) vsA an:=Paired.imp (fun _ _ r=>Pr.same r fD) p1;have hpU:Paired (Pr c (upd H d (.dT []))) vsU au:=Paired.imp (fun _ _ r=>Pr.same r fD) p2;have lA:=Paired.length p1;have lU:=Paired.length p2;refine a0 h1 T.cR T.d8 f.ans (a0 h1 T.cR T.eE f.aut (mH h2 h3 (by lia) fun g hg=>?_));have s2:=aj (o:=.lst (vsA++vsU)) hg;have hgd:g≠d:=fun z=>by subst z;rw[af]at hg;cases hg
 have hP:Paired (Pr c (upd (upd H d (.dT [])) g (.lst (vsA++vsU)))) (vsA++vsU) (an++au):=Paired.imp (fun _ _ r=>Pr.same r s2) (Paired.app hpA hpU);have h2d:(upd (upd H d (.dT [])) g (.lst (vsA++vsU))) d=some (.dT []):=s2 _ _ af;have s02:=s1.trans s2;have h2g:(upd (upd H d (.dT [])) g (.lst (vsA++vsU))) g=some (.lst (vsA++vsU)):=af;generalize upd (upd H d (.dT [])) g (.lst (vsA++vsU))=H2 at hP h2d s02 h2g;have hled:=zw (an++au);have hone:=m7 (ip (an++au)) [];rw[JT]at hled;rw[J7]at hone;walk_at "rd";refine⟨⟨_,aY.of h2g⟩,?_⟩;refine qf (JF H a an au za d) ?_ fun N hN=>?_
 .rintro σ H3 ⟨x,y,kvs,rfl,s3,h3d,dc⟩;generalize (ip (an++au)).foldl aF []=ns at q dc hone;walk_at "rd";refine⟨az (by decide),fun D hD=>?_⟩;have hDd:D≠d:=fun z=>by subst z;rw[h3d]at hD;cases hD
  have hD0:H D=none:=by
   cases hz:H D with
   |none=>rfl
   |some ob=>have:=s3 _ _ hz;rw[hD]at this;cases this
  refine⟨d,.dT kvs,by rw[ai (Ne.symm hDd)];exact h3d,True.intro,fun od=>?_⟩;have s4:=aj (o:=.lst []) hD;generalize hH4:upd (upd H3 D (.lst [])) d (.frz od (.dT kvs))=H4;have h4d:H4 d=some (.frz od (.dT kvs)):=by rw[<-hH4,af]
  have h4D:H4 D=some (.lst []):=by rw[<-hH4,ai hDd,af]
  have s04:ar H H4:=by rw[<-hH4];exact a8 (s3.trans s4) hd
  clear hH4;walk_at "rd";refine⟨od,.inr ⟨kvs,h4d,?_⟩⟩;refine A7 (Jm c H a xs za d kvs ns D od)
   ⟨x,none,y,none,[],rfl,s04,h4d,h4D,.nil⟩ (fun i σ H' ⟨_,_,_,_,_,_,_,h,_,_⟩=>h) ?_ ?_
  .rintro i k u b σ H5 hk kb ⟨x1,y1,z1,w1,ws,rfl,s5,h5d,h5D,hp5⟩;obtain⟨n,hn,ek,_⟩:=Paired.get dc hk;dsimp only at ek;subst ek;have nm:Nm H5 (.ref b) n:=Cc kb.1;have hil:i<ns.length:=(JW.mp hn).1;have htk:ns.take (i+1)=ns.take i++[n]:=by rw[List.take_succ,hn];rfl
   walk_at "rd";refine⟨(hi _ (by decide +kernel) (by decide +kernel) (by decide +kernel)).same s5,.ref za,.ref b,o,xs,n,.A,rfl,hZ.same s5,nm,by lia,fun v6 H6 s6 hL=>?_⟩;obtain⟨l6,vs6,rfl,hl6,hp6⟩:=hL;refine⟨(hi _ (by decide +kernel) (by decide +kernel) (by decide +kernel)).same (s5.trans s6),.ref za,.ref b,o,xs,n,.AAAA,rfl,hZ.same (s5.trans s6),nm.same s6,by lia,fun v7 H7 s7 hL=>?_⟩;obtain⟨l7,vs7,rfl,hl7,hp7⟩:=hL;have hlad:=xp (xs:=xs) (n:=n);rw[JT]at hlad;have l6l:=Paired.length hp6;have l7l:=Paired.length hp7;refine mH (s7 _ _ hl6) hl7 (by lia) fun g8 hg8=>?_;have s8:=aj (o:=.lst (vs6++vs7)) hg8;have hp8:Paired (Rec c (upd H7 g8 (.lst (vs6++vs7)))) (vs6++vs7) (fF xs n .A++fF xs n .AAAA):=Paired.app (Paired.imp (fun _ _ r=>Rec.same r (s7.trans s8)) hp6) (Paired.imp (fun _ _ r=>Rec.same r s8) hp7);have h8g:(upd H7 g8 (.lst (vs6++vs7))) g8=some (.lst (vs6++vs7)):=af;have s58:=(s6.trans s7).trans s8;generalize upd H7 g8 (.lst (vs6++vs7))=H8 at hp8 h8g s58;walk_at "rd";have h8D:=s58 _ _ h5D;refine⟨oX h8D,⟨_,aY.of h8g⟩,fun D9 hD9=>?_⟩;refine ja (Walk.l (aY.of h8g)) (R:=Rec c) (S:=Pr c) hp8 (fun _ _ _ _ s r=>r.same s) (fun _ _ _ _ s r=>r.lk s) (fun q=>(n,q)) (by rw[JT];lia) hD9 (fun i d x H' k2 h1 h2 h3 h4=>?_) fun acc H9 ha9 hp9 s9=>?_
   .walk_at "rd";refine⟨az (by decide),fun t ht=>h4 _ _ (aj ht) (Pr.new ht (nm.same (s58.trans h3)) h2)⟩
   .have h9D:=s9 _ _ h8D;have hml:=wm (xs:=xs) (ns.take i);have l5:=Paired.length hp5;have l9:=Paired.length hp9;rw[Kk,JT]at l9;have htl:(ns.take i).length<=ns.length:=by rw[Kf];exact Nat.min_le_right _ _
    have hmul:xs.length*(ns.take i).length<=2048*4200:=Nat.mul_le_mul hlx (by lia);refine wI h9D ha9 (by lia) ?_;have lk:Lk H9 (upd H9 D (.lst (ws++acc))):=jZ h9D;refine⟨_,_,_,_,_,rfl,a8 ((s5.trans s58).trans s9) hD0,?_,af,?_⟩
    .rw[ai (Ne.symm hDd)];exact s9 _ _ (s58 _ _ h5d)
    .rw[htk,Az];exact Paired.app (Paired.imp (fun _ _ r=>(Pr.same r (s58.trans s9)).lk lk) hp5) (Paired.imp (fun _ _ r=>Pr.lk r lk) hp9)
  .rintro σ H5 ⟨x1,y1,z1,w1,ws,rfl,s5,h5d,h5D,hp5⟩;rw[dc.len,List.take_length]at hp5;refine⟨h5d,?_⟩;walk_at "rd";refine q _ _ hD0 (a8 s5 hd) ⟨D,ws,rfl,by rw[ai hDd];exact h5D,Paired.imp (fun _ _ r=>Pr.updD r h5d (by simp) (by simp) (by simp)) hp5⟩
 .refine gW (H0:=wo H2 d) (Walk.l (aY.of (by rw[aZ hgd];exact h2g))) (fun i σ H'=>∃x y kvs,σ=[some (.ref za),some (.ref a),some (.ref d),x,none,none,y,none]/\ar (wo H2 d) H'/\H' d=some (.dT kvs)/\Dc kN (fun _ _=>True) kvs ((ip ((an++au).take i)).foldl aF [])/\i<=(an++au).length)
   ⟨none,none,[],rfl,fD,h2d,.nil,Kq _⟩ (fun i σ H' ⟨_,_,_,_,s,_⟩=>s) ?_ ?_
  .rintro i x σ H3 hx ⟨x0,y0,kvs,rfl,s3,h3d,dc,hi3⟩;obtain⟨pq,hpq,hr0⟩:=Paired.get hP hx;have hil:i<(an++au).length:=(JW.mp hpq).1;have htk:(an++au).take (i+1)=(an++au).take i++[pq]:=by rw[List.take_succ,hpq];rfl
   have hpm:pq∈an++au:=Kr hpq;have hr3:Pr c H3 x pq:=by
    have rk:Rk H2 H3:=Fq h2d s3;obtain⟨xa,xb,t,nn,rr⟩:=hr0;exact⟨xa,xb,rk.tk.tp t,rk.tk.nm nn,rr.rk rk⟩
   obtain⟨xa,xb,⟨ta,rfl,tt⟩,nn,hrec⟩:=hr3;have hw:=hwf pq hpm;have hl1:=zw ((an++au).take i);have hl2:=m7 (ip ((an++au).take i)) [];rw[Kf]at hl1;rw[J7]at hl2;have hkl:=dc.len;rw[htk,Cj,List.foldl_append];walk_at "rd";refine cT (.inl tt) (v:=xb) (bG (j:=1) rfl) ?_;obtain⟨ra,rdx,rfs,rfl,rh,rf⟩:=id hrec;walk_at "rd";refine a0 rh T.aN T.cW rf.kind ⟨az (by decide),fun t4 ht4=>vW (gG.of af) rfl rfl ?_⟩;have s4:=aj (o:=.tup [.str (kS .NS),.str (kS .MX),.str (kS .SRV)]) ht4;have e5:=IM pq.2.kind;walk_at "rd";show if (zA (.str (kS pq.2.kind)) [.str (kS .NS),.str (kS .MX),.str (kS .SRV)])=true then _ else _
   rw[e5];refine aS (fun hle=>?_) fun hle=>?_
   .rw[JX hle];have hl1:pq.2.said.names.length=1:=by
     unfold nA at hle;have:=of_decide_eq_true hle;rcases this with z|z|z<;>(rw[z]at hw;first|exact hw.2.2|exact hw.2)
    obtain⟨vn,en,⟨vns,⟨an',rfl,hrn⟩,pns⟩⟩:=rf.names;refine a0 (s4 _ _ rh) T.aN T.fL en ?_
    match hns:pq.2.said.names,hl1 with
    |[t0],_ =>
     rw[hns]at pns;obtain⟨y1,rfl,hy1⟩:∃y1,vns=[y1]/\Nm H3 y1 t0:=by
      cases pns with
      |cons r t=>cases t;exact⟨_,rfl,r⟩
     refine cT (.inl (ar.rd s4 hrn)) (v:=y1) (bG (j:=0) rfl) ?_;refine uQ (s4 _ _ h3d) (hy1.same s4) (by rw[JT]at *;lia) ?_;refine⟨_,_,_,rfl,?_,af,?_,hil⟩
     .exact a8 (s3.trans s4) cF
     .exact dc.put
   .rw[JU hle];exact⟨_,_,kvs,rfl,s3.trans s4,s4 _ _ h3d,dc,hil⟩
  .rintro σ H3 ⟨x0,y0,kvs,rfl,s3,h3d,dc,hi3⟩;have hfull:(an++au).take (vsA++vsU).length=an++au:=by rw[Paired.length hP];exact List.take_length
   rw[hfull]at dc;refine hN _ _ ⟨x0,y0,kvs,rfl,?_,h3d,dc⟩;exact(ik s02 hd).trans s3
end
section
inductive Qn (c:As) (H:Hp) (v:V) (n:List (List Nat)) (qb:List Nat):Prop
 |mk (a dx:Addr) (fs:List (Str×V)) (vn:V) (l:Addr) (_:v = .ref a) (_:H a=some (.ins c.CQ dx fs)) (_:fs.lookup ("name":Str)=some vn) (_:Nm H vn n) (_:fs.lookup ("octets":Str)=some (.ref l)) (_:H l=some (.lst (nz qb))) (_:fs.lookup ("number":Str)=some (iv (Sn12.word qb (qb.length-4)))) (_:fs.lookup ("group":Str)=some (iv (Sn12.word qb (qb.length-2))))
theorem Qn.same{qb:List Nat}(h:Qn c H v n qb)(s:ar H H'):Qn c H' v n qb:=by
 obtain⟨a,dx,fs,vn,l,rfl,h1,h2,h3,h4,h5,h6,h7⟩:=h;exact⟨a,dx,fs,vn,l,rfl,s _ _ h1,h2,h3.same s,h4,s _ _ h5,h6,h7⟩
inductive Fn (c:As) (vs:List V) (H:Hp) (Q:VK) (E:XK):Prop
 |mk (p dx l:Addr) (v1:V) (n:List (List Nat)) (qb:List Nat) (_:vs=[.ref p,v1,.ref l]) (_:H p=some (.ins c.CQ dx [])) (_:Nm H v1 n) (_:H l=some (.lst (nz qb))) (_:4<=qb.length) (_:∀H',ar (wo H p) H'->Qn c H' (.ref p) n qb->Q .non H')
theorem kL(T:Top K mg base c):E3 P w K mg base c.CQ 2 ["self","name","octets"] (Fn c):=by
 refine T.yu.cl ["self","name","octets"] ?_;rintro nd _ _ _ _ _ H _ Q E hr ⟨p,dx,l,v1,n,qb,rfl,hp,hN,hl,hl4,q⟩;refine⟨_,(ae (cK (pv 0) (pv 1) rfl)
  (ae (cK (pv 0) (pv 2) rfl)
  (ae (cK (pv 0) (pF (iE T) hr aq (aa (pv 2) (aa (aP gj (gL T (pv 2)) ak) ag))) rfl)
  (ah (cK (pv 0) (pF (iE T) hr aq (aa (pv 2) (aa (aP gj (gL T (pv 2)) ak) ag))) rfl))))),?_⟩
 have hlp:l≠p:=bH hl hp (by simp);walk_at "rd";refine fb hp T.eA T.ij (by show 0<1000;decide) ?_;walk_at "rd";refine fb af T.eA T.gx (by show 1<1000;decide) ?_;rw[fN];walk_at "rd";refine cD (aY.of (by rw[ai hlp];exact hl)) ?_;walk_at "rd";rw[aD];refine⟨l,qb,qb.length-4,by rw[show((qb.length:Int)-4)=((qb.length-4:Nat):Int) by omega],aY.of (by rw[ai hlp];exact hl),by omega,?_⟩;refine fb af T.eA T.jf (by show 2<1000;decide) ?_;rw[fN];walk_at "rd";refine cD (aY.of (by rw[ai hlp];exact hl)) ?_;walk_at "rd";rw[aD];refine⟨l,qb,qb.length-2,by rw[show((qb.length:Int)-2)=((qb.length-2:Nat):Int) by omega],aY.of (by rw[ai hlp];exact hl),by omega,?_⟩;refine fb af T.eA T.jK (by show 3<1000;decide) ?_;rw[fN];have lk:∀(g f:Str) (v:V) (fs:List (Str×V)),¬g=f->(fm f v fs).lookup g=fs.lookup g:=fun g f v fs h=>by rw[aC,JU h]
 have l0:∀(f:Str) (v:V) (fs:List (Str×V)),(fm f v fs).lookup f=some v:=fun f v fs=>by rw[aC,JX rfl]
 refine q _ (o4 fun b hb=>ai hb) ⟨p,dx,_,v1,l,rfl,af,?_,(Tk.upd hp (by simp) (by simp)).nm hN,?_,by rw[ai hlp];exact hl,?_,?_⟩
 .rw[lk _ _ _ _ (by decide +kernel),lk _ _ _ _ (by decide +kernel),lk _ _ _ _ (by decide +kernel),l0]
 .rw[lk _ _ _ _ (by decide +kernel),lk _ _ _ _ (by decide +kernel),l0]
 .rw[lk _ _ _ _ (by decide +kernel),l0];rfl
 .rw[l0];rfl
inductive Bw (K:Lq) (vs:List V) (H:Hp) (Q:VK) (E:XK):Prop
 |mk (a:Addr) (bs:List Nat) (_:vs=[.ref a]) (_:aY K H a (nz bs)) (_:bs.length<=65536) (_:i6 H Q IC (dY bs))
inductive Jl (H:Hp) (a:Addr) (bs:List Nat) (l:Addr) (m:Nat) (σ:St) (H':Hp):Prop
 |mk (p f:Nat) (x y:Option V) (acc:List (List Nat)) (vs:List V) (_:σ=[some (.ref a),some (.ref l),some (iv (12+p)),x,y]) (_:m+p=400) (_:ar H H') (_:H' l=some (.lst vs)) (_:Paired (Bt H') vs acc) (_:dY bs=jd p acc (Sn12.labelsAt (f+1) (bs.drop (12+p)))) (_:2*(128-f)<=p) (_:acc.length<=p) (_:p<=320)
theorem pI(T:Top K mg base c):gz P w K mg base "name_or_none" 3 ["query"] (Bw K):=by
 have g:=T.g;refine T.rF.cl ["query","labels","place","size","behind"] ?_;rintro nd _ _ _ _ _ H _ Q E hr ⟨a,bs,rfl,hS,hbl,q⟩;refine⟨_,(ae (sS 1 nd (bN ag))
  (ae (sS 2 nd (aQ g.fM))
  (ae (hU aA (PW.pt (jT (tR kD (pv 2) (gL T (pv 0))) (iC (tR kD (pv 2) (aP dX (aQ g.fM) (aQ g.nX)))))) (ae (sS 3 nd (xL cH (pv 0) (pv 2)))
  (ae (aR (tR d4 (pv 3) ak) (ah (ay (dS (fu (K:=K) rfl) (by rfl) g.tuple fw (aa (pv 1) ag)))) aB)
  (ae (aR (tR iP (pv 3) (aQ g.ml)) (ah (ay gK)) aB)
  (ae (sS 4 nd (aP dX (aP dX (pv 2) ak) (pv 3)))
  (ae (aM (fo Ka KJ KI fz (pv 1) (aa (pF (kG T) hr aq (aa (bF f9 (pv 0) (bD (aP dX (pv 2) ak)) (bD (pv 4))) ag)) ag)))
  (ah (sS 2 nd (pv 4)))))))))
  (ah (ay gK))))),?_⟩
 walk_at "rd";refine⟨az (by decide),fun l hl0=>?_⟩;have s0:=aj (o:=.lst []) hl0;refine qf (fun σ H'=>ar H H'/\dY bs=none) (fun σ H' ⟨s,e⟩=>?_) fun N hN=>?_
 .walk_at "rd";have:=q .non H' s;rw[e]at this;exact this rfl
 .refine oZ (Jl H a bs l) 400
   ⟨0,128,none,none,[],[],rfl,rfl,s0,af,.nil,rfl,JY _,JY _,by decide⟩ ?_
  rintro m σ H1 ⟨p,f,x,y,acc,vs,rfl,hm,s1,h1l,hp,eN,hf,hac,hp320⟩;walk_at "rd";refine cD (s1.seq hS) ?_;walk_at "rd";rw[aD];refine aS (fun hlt=>?_) fun hlt=>?_
  .walk_at "rd";refine aS (fun h267=>?_) fun h267=>?_
   .have hlt':12+p<bs.length:=by lia
    have hp255:p<255:=by lia
    have hcons:bs.drop (12+p)=bs.getD (12+p) 0::bs.drop (12+p+1):=by
     rw[K8 hlt'];congr 1;rw[List.getD_eq_getElem?_getD,Ks hlt'];rfl
    refine⟨_,fun σ' H' h=>h,?_⟩;refine dP (s1.seq hS) (at_getD hlt' rfl) ?_;walk_at "rd";generalize hsz:bs.getD (12+p) 0=sz at hcons;rw[hcons]at eN;refine aS (fun hz=>?_) fun hz=>?_
    .have hz:sz=0:=by lia
     subst hz;rw[CI hp255]at eN;refine zC (aY.of h1l) fun t ht=>?_;have st:=aj (o:=.tup vs) ht;have:=q (.ref t) _ (s1.trans st);rw[eN]at this;exact this ⟨vs,Tp.new,Paired.imp (fun _ _ r=>Bt.same r st) hp⟩
    .refine aS (fun hbig=>?_) fun hbig=>?_
     .rw[EA (by lia)]at eN;have:=q .non _ s1;rw[eN]at this;exact this rfl
     .obtain⟨f',rfl⟩:∃f',f=f'+1:=⟨f-1,by lia⟩
      rw[CJ (by lia) (by lia)]at eN;refine⟨oX h1l,?_⟩;refine tq (s1.seq hS) fun v2 H2 s2 hv2=>?_;obtain⟨b2,rfl,h2b⟩:=hv2;have e1:((12+p:Nat):Int)+1=((12+p+1:Nat):Int):=by lia
      have e2:((12+p:Nat):Int)+1+(sz:Int)=((12+p+1+sz:Nat):Int):=by lia
      rw[e2,e1,rJ]at h2b;have ecut:(bs.take (12+p+1+sz)).drop (12+p+1)=(bs.drop (12+p+1)).take sz:=by
       rw[List.drop_take];congr 1;lia
      rw[ecut]at h2b;refine⟨b2,(bs.drop (12+p+1)).take sz,rfl,.inl (aY.of h2b),by rw[Kf];lia,fun v3 H3 s3 b3=>?_⟩;have h3l:=(s2.trans s3) _ _ h1l;have hvl:=Paired.length hp;refine goApp h3l (by lia) ?_;have lk:Lk H3 (upd H3 l (.lst (vs++[v3]))):=jZ h3l;refine⟨399-p-sz,by lia,p+1+sz,f',_,_,acc++[((bs.drop (12+p+1)).take sz).map Sn12.lower],vs++[v3],by rw[e2,show 12+p+1+sz=12+(p+1+sz) by lia],by lia,a8 ((s1.trans s2).trans s3) hl0,af,Paired.snoc (Paired.imp (fun _ _ r=>(Bt.same r (s2.trans s3)).lk lk) hp) (b3.lk lk),?_,by lia,by rw[JT,JS,J7];lia,by lia⟩;rw[eN,List.drop_drop,show 12+(p+1+sz)=12+p+1+sz by lia]
   .exact hN _ _ ⟨s1,by rw[eN,Ez (by lia)]⟩
  .exact hN _ _ ⟨s1,by rw[eN,List.drop_eq_nil_of_le (by lia)];rfl⟩
theorem shaped_ints(a:List Nat):SeqAt.shaped (.list (a.map fun(n:Nat)=>PyData.int n))=true:=by
 unfold SeqAt.shaped;rw[PyData.canLay0,lay_ints,PyData.depth,nH];rfl
theorem HV{l m:Addr}{a b:List Nat}(h1:H l=some (.lst (nz a)))(h2:H m=some (.lst (nz b)))(q:Q (.bl (!decide (a=b))) H):BL K (.ref l) (.ref m) H Q :=
 ⟨.list (a.map fun(n:Nat)=>PyData.int n),.list (b.map fun(n:Nat)=>PyData.int n),.lst (aY.of h1) (zH a),.lst (aY.of h2) (zH b),shaped_ints _,shaped_ints _,by rw[PyData.eqv,rA];exact q⟩
noncomputable def JA(c:As)(H:Hp)(v:V):Option (List (List Nat)×List Nat)->Prop
 |some (n,qb)=>Qn c H v n qb
 |none=>v = .non
theorem qT{bs:List Nat}(h:dY bs=some n):Sn12.size n<=255:=by
 unfold dY at h;cases hl:Sn12.labelsAt 129 (bs.drop 12) with
 |none=>rw[hl]at h;cases h
 |some x =>
  obtain⟨m,k⟩:=x;rw[hl]at h;have h:(if 255<0+k then none else some ([]++m))=some n:=h;have hk:=fZ _ _ _ _ hl;split at h
  .cases h
  .rw[Lg]at h;cases h;lia
inductive Hx (K:Lq) (c:As) (vs:List V) (H:Hp) (Q:VK) (E:XK):Prop
 |mk (a:Addr) (bs:List Nat) (_:vs=[.ref a]) (_:aY K H a (nz bs)) (_:12<=bs.length) (_:bs.length<=65536) (_:i6 H Q (JA c) (NM.question bs))
theorem lS(T:Top K mg base c):gz P w K mg base "question_or_none" 4 ["query"] (Hx K c):=by
 have g:=T.g;refine T.mI.cl ["query","name","end","place"] ?_;rintro nd _ _ _ _ _ H _ Q E hr ⟨a,bs,rfl,hS,h12,hbl,q⟩;refine⟨_,(ae (aR (tR (qG (dZ hr)) (gh (own:=[("place",3)]) aq rfl rfl rfl nd (oq (bM (aa ak (aa ak (aa ak ag))))) (cP (by kernel_rfl)) (fun _ _ _ _ _ _ hA=>(gN 3 nd)) (fun _ _ _ _ _ _ hA=>fE) (fun _ _ _ _ _ _ hA=>(pF (iE T) hr hA (aa (pv 0) (aa (pv 3) ag))))) (bN (aa ak (aa ak (aa ak ag))))) (ah (ay gK)) aB)
  (ae (sS 1 nd (pF (pI T) hr aq (aa (pv 0) ag)))
  (ae (aR (ie (um (pv 1))) (ah (ay gK)) aB)
  (ae (sS 2 nd (aP dX (aP dX (aQ g.fM) (pF (ng T) hr aq (aa (pv 1) ag))) ak))
  (ae (aR (tR kD (gL T (pv 0)) (pv 2)) (ah (ay gK)) aB)
  (ae (aR (PW.pt (jT (tR iP (gL T (pv 0)) (pv 2)) (iC (tR d4 (pF (iE T) hr aq (aa (pv 0) (aa ak ag))) ak)))) (ah (ay gK)) aB)
  (ah (ay (BV (kL T) T.ym (hr.mono (by decide)) aq (aa (pv 1) (aa (bF f9 (pv 0) (bD (aQ g.fM)) (bD (pv 2))) ag))))))))))),?_⟩
 walk_at "rd";refine⟨az (by decide),fun t ht=>?_⟩;have st:=aj (o:=.tup [V.int 4,V.int 6,V.int 8]) ht;refine⟨⟨_,gG.of af⟩,fun D hD=>?_⟩;refine ja (Walk.t (xs:=nz [4,6,8]) (gG.of af)) (R:=In) (S:=In) (ds:=[4,6,8]) zr (fun _ _ _ _ _ h=>h) (fun _ _ _ _ _ h=>h) (fun n=>Sn12.word bs n) (by decide) hD (fun i d x H' k h1 h2 h3 h4=>?_) fun acc H1 ha hp s1=>?_
 .subst h2;walk_at "rd";refine⟨a,bs,d,rfl,(st.trans h3).seq hS,?_,h4 _ _ (ar.refl _) rfl⟩;have hd:d∈[4,6,8]:=Kr h1;have:d=4\/d=6\/d=8:=by simpa using hd
  lia
 .rw[wA hp]at ha;have s01:=st.trans s1;walk_at "rd";refine⟨az (by decide),fun m hm=>?_⟩;have s2:=aj (o:=.lst [V.int 1,V.int 0,V.int 0]) hm;refine HV (a:=[4,6,8].map fun n=>Sn12.word bs n) (b:=[1,0,0]) (s2 _ _ ha) af ?_;have s02:=s01.trans s2;generalize upd H1 m (.lst [V.int 1,V.int 0,V.int 0])=H2 at s2 s02;walk_at "rd";have q:i6 H Q (JA c) (if Sn12.word bs 4≠1\/Sn12.word bs 6≠0\/Sn12.word bs 8≠0 then none else match dY bs with
   |none=>none
   |some n=>if bs.length<12+Sn12.size n+4 then none else if 12+Sn12.size n+4<bs.length/\Sn12.word bs 10=0 then none else some (n,(bs.drop 12).take (Sn12.size n+4))):=q
  refine aS (fun hne=>?_) fun heq=>?_
  .rw[JX (by
    rcases Classical.em (Sn12.word bs 4≠1\/Sn12.word bs 6≠0\/Sn12.word bs 8≠0) with z|z
    .exact z
    .refine absurd ?_ hne;have z1:Sn12.word bs 4=1:=by lia
     have z2:Sn12.word bs 6=0:=by lia
     have z3:Sn12.word bs 8=0:=by lia
     simp[z1,z2,z3])]at q
   exact q _ _ s02 rfl
  .have heq:[4,6,8].map (fun n=>Sn12.word bs n)=[1,0,0]:=Classical.not_not.mp heq;rw[JU (by
    simp at heq;lia)]at q
   refine⟨a,bs,rfl,s02.seq hS,hbl,fun v3 H3 s3 r3=>?_⟩;have s03:=s02.trans s3;cases hno:dY bs with
   |none =>
    rw[hno]at r3 q;obtain rfl:v3 = .non:=r3;walk_at "rd";exact q _ _ s03 rfl
   |some n =>
    rw[hno]at r3 q;have r3:Nm H3 v3 n:=r3;obtain⟨b3,rfl⟩:=r3.ref;have hsz:=qT hno;have hnl:=fJ n;dsimp only at q;walk_at "rd";refine⟨.ref b3,n,rfl,r3,by lia,fun H4 s4=>?_⟩;have s04:=s03.trans s4;walk_at "rd";refine cD (s04.seq hS) ?_;walk_at "rd";rw[aD];refine aS (fun hlt=>?_) fun hlt=>?_
    .rw[JX (by lia)]at q;exact q _ _ s04 rfl
    .rw[JU (by lia)]at q;have fin:¬(12+Sn12.size n+4<bs.length/\Sn12.word bs 10=0)->qy K (.ref a) (some 12) (some ((12:Int)+(Sn12.size n:Int)+4)) H4 fun x H5=>∀x1 dx,H5 x1=none->H5 dx=none->dx≠x1->Fn c [.ref x1,.ref b3,x] (upd (upd H5 dx (.own x1)) x1 (.ins c.CQ dx [])) (fun v H2=>v = .non/\Q (.ref x1) H2) E:=fun hno2=>by
      rw[JU hno2]at q;refine tq (s04.seq hS) fun v5 H5 s5 hv5=>?_;obtain⟨b5,rfl,h5⟩:=hv5;have e1:((12:Int)+(Sn12.size n:Int)+4)=((12+Sn12.size n+4:Nat):Int):=by lia
      have e2:(some (12:Int))=some ((12:Nat):Int):=rfl;rw[e1,e2,rJ,List.drop_take]at h5;have e3:12+Sn12.size n+4-12=Sn12.size n+4:=by lia
      rw[e3]at h5;intro x1 dx hx hdx hne;have sx:ar H5 (upd (upd H5 dx (.own x1)) x1 (.ins c.CQ dx [])):=(aj hdx).trans (aj (by rw[ai (Ne.symm hne)];exact hx));refine⟨x1,dx,b5,.ref b3,n,(bs.drop 12).take (Sn12.size n+4),rfl,af,r3.same ((s4.trans s5).trans sx),sx _ _ h5,by rw[Kf,J4];lia,fun H6 s6 q6=>⟨rfl,?_⟩⟩;exact q _ _ ((s04.trans s5).trans ((ik sx hx).trans s6)) q6
     refine cD (s04.seq hS) ?_;walk_at "rd";rw[aD];refine aS (fun hgt=>?_) fun hgt=>fin fun z=>hgt (by lia);refine⟨a,bs,10,rfl,s04.seq hS,by lia,?_⟩;walk_at "rd";have ew:Sn12.word bs 10=bs.getD 10 0*256+bs.getD 11 0:=rfl;have e11:bs.getD (10+1) 0=bs.getD 11 0:=rfl;refine aS (fun hz=>?_) fun hz=>fin fun z=>hz (by have:=z.2;rw[ew]at this;lia);rw[JX ⟨by lia,by rw[ew];lia⟩]at q;exact q _ _ s04 rfl
end
section
noncomputable def EU(kvs:List (KD×V))(pl:List (List (List Nat)×Nat)):Prop:=Paired (fun kv q=>kv.1=kN q.1/\kv.2=iv q.2) kvs pl
theorem uj:∀{kvs:List (KD×V)} {pl:List (List (List Nat)×Nat)},EU kvs pl->d9 kvs (kN n)=(pl.find? fun p=>p.1==n).map fun q=>iv q.2
 |_,_,.nil=>rfl
 |_,_,.cons (a:=kv) (b:=q) r t=>by
  rw[List.find?_cons];by_cases z:q.1=n
  .have:(q.1==n)=true:=by simpa using z
   rw[this,d7 (by rw[r.1,z]),r.2];rfl
  .have:(q.1==n)=false:=by simpa using z
   rw[this,dU (fun y=>z (oG (r.1.symm.trans y)))];exact uj t
theorem Df(pl:List (List (List Nat)×Nat)):(pl.any fun p=>p.1==n)=(pl.find? fun p=>p.1==n).isSome:=by
 rw[Bool.eq_iff_iff,List.any_eq_true,List.find?_isSome]
structure JN (fs:List (Str×V)) (l d:Addr) (full:Bool):Prop where
 len:fs.length<=3
 oct:fs.lookup ("octets":Str)=some (.ref l)
 pla:fs.lookup ("places":Str)=some (.ref d)
 ful:fs.lookup ("is_full":Str)=some (.bl full)
 oth:∀f:Str,f≠"octets"->f≠"places"->f≠"is_full"->fs.lookup f=none
inductive Ms (c:As) (Hb H:Hp) (a:Addr) (x:Sn12.Out) (full:Bool):Prop
 |mk (dx:Addr) (fs:List (Str×V)) (l d:Addr) (kvs:List (KD×V)) (_:ar Hb H) (_:Hb a=none) (_:Hb l=none) (_:Hb d=none) (_:H a=some (.ins c.CM dx fs)) (_:JN fs l d full) (_:H l=some (.lst (nz x.bytes))) (_:H d=some (.dT kvs)) (_:EU kvs x.places)
section
variable{x:Sn12.Out}
theorem Ms.same(h:Ms c Hb H a x full)(s:ar H H'):Ms c Hb H' a x full:=by
 obtain⟨dx,fs,l,d,kvs,sb,b1,b2,b3,h1,f,h2,h3,p⟩:=h;exact⟨dx,fs,l,d,kvs,sb.trans s,b1,b2,b3,s _ _ h1,f,s _ _ h2,s _ _ h3,p⟩
theorem Ms.below(h:Ms c Hb H a x full):ar Hb H:=let ⟨_,_,_,_,_,sb,_,_,_,_,_,_,_,_⟩:=h;sb
theorem Ms.ins(h:Ms c Hb H a x full)(m:Str)(h1:m≠"octets")(h2:m≠"places")(h3:m≠"is_full"):jg c.CM m H a:=by
 obtain⟨dx,fs,l,d,kvs,sb,b1,b2,b3,ha,f,_⟩:=h;exact⟨dx,fs,ha,f.oth m h1 h2 h3⟩
theorem Ms.oct(T:Top K mg base c)(h:Ms c Hb H a x full)(q:∀l,H l=some (.lst (nz x.bytes))->(∀H2 bs,ar H H2->Ms c Hb (upd H2 l (.lst (nz bs))) a ⟨bs,x.places⟩ full/\Tk H2 (upd H2 l (.lst (nz bs))))->Q (.ref l) H):dM K ("octets":Str) H a Q:=by
 obtain⟨dx,fs,l,d,kvs,sb,b1,b2,b3,h1,f,h2,h3,p⟩:=h;refine a0 h1 T.bK T.gS f.oct (q l h2 fun H2 bs s=>⟨⟨dx,fs,l,d,kvs,a8 (sb.trans s) b2,b1,b2,b3,?_,f,af,?_,p⟩,Tk.upd (s _ _ h2) (by simp) (by simp)⟩)
 .rw[ai (bH h1 h2 (by simp))];exact s _ _ h1
 .rw[ai (bH h3 h2 (by simp))];exact s _ _ h3
theorem Ms.lenO(T:Top K mg base c)(h:Ms c Hb H a x full)(q:Q (.int (x.bytes.length:Int)) H):dM K ("octets":Str) H a fun y H1=>vY K [y] H1 Q:=by
 refine h.oct T fun l hl _=>cD (aY.of hl) ?_;rw[aD];exact q
theorem Ms.fullO(T:Top K mg base c)(h:Ms c Hb H a x full)(q:Q (.bl full) H):dM K ("is_full":Str) H a Q:=by
 obtain⟨dx,fs,l,d,kvs,sb,b1,b2,b3,h1,f,_⟩:=h;exact a0 h1 T.bK T.gy f.ful q
theorem Ms.pla(T:Top K mg base c)(h:Ms c Hb H a x full)(q:∀d kvs,H d=some (.dT kvs)->EU kvs x.places->(∀kvs' pl,EU kvs' pl->Ms c Hb (upd H d (.dT kvs')) a ⟨x.bytes,pl⟩ full/\Tk H (upd H d (.dT kvs')))->Q (.ref d) H):dM K ("places":Str) H a Q:=by
 obtain⟨dx,fs,l,d,kvs,sb,b1,b2,b3,h1,f,h2,h3,p⟩:=h;refine a0 h1 T.bK T.jL f.pla (q d kvs h3 p fun kvs' pl p'=>⟨⟨dx,fs,l,d,kvs',a8 sb b3,b1,b2,b3,?_,f,?_,af,p'⟩,Tk.upd h3 (by simp) (by simp)⟩)
 .rw[ai (bH h1 h3 (by simp))];exact h1
 .rw[ai (bH h2 h3 (by simp))];exact h2
end
inductive FW (c:As) (vs:List V) (H:Hp) (Q:VK) (E:XK):Prop
 |mk (p dx:Addr) (_:vs=[.ref p]) (_:H p=some (.ins c.CM dx [])) (_:∀H',Ms c (wo H p) H' p ⟨List.replicate 12 0,[]⟩ false->Q .non H')
theorem Gn(k n:Nat):nz (List.replicate k n)=List.replicate k (iv n):=by unfold nz;rw[List.map_replicate]
theorem lV(T:Top K mg base c):E3 P w K mg base c.CM 1 ["self"] (FW c):=by
 have g:=T.g;refine T.AG.cl ["self"] ?_;rintro nd _ _ _ _ _ H _ Q E hr ⟨p,dx,rfl,hp,q⟩;refine⟨_,(ae (cK (pv 0) (aP B3 (bN (aa ak ag)) (aQ g.fM)) rfl)
  (ae (cK (pv 0) kA rfl)
  (ah (cK (pv 0) mY rfl)))),?_⟩
 walk_at "rd";refine⟨az (by decide),fun l0 hl0=>?_⟩;have s0:=aj (o:=.lst [V.int 0]) hl0;refine CB (k:=12) af rfl (by decide) fun l hl=>?_;have s1:=aj (o:=.lst (List.replicate 12 (V.int 0))) hl;have hp1:=(s0.trans s1) _ _ hp;have h1l:(upd (upd H l0 (.lst [V.int 0])) l (.lst (List.replicate 12 (V.int 0)))) l=some (.lst (nz (List.replicate 12 0))):=by rw[af,Gn];rfl
 have s01:=s0.trans s1;have hl00:H l=none:=by
  cases hz:H l with
  |none=>rfl
  |some ob=>have:=s0 _ _ hz;rw[hl]at this;cases this
 generalize upd (upd H l0 (.lst [V.int 0])) l (.lst (List.replicate 12 (V.int 0)))=H1 at hp1 h1l s01;refine fb hp1 T.bK T.gS (by show 0<1000;decide) ?_;have hlp:l≠p:=bH h1l hp1 (by simp);walk_at "rd";intro d hd;have hdp:d≠p:=fun z=>by subst z;rw[af]at hd;cases hd
 have hd1:H1 d=none:=by rw[ai hdp]at hd;exact hd
 have hdl:d≠l:=fun z=>by subst z;rw[h1l]at hd1;cases hd1
 have hd0:H d=none:=by
  cases hz:H d with
  |none=>rfl
  |some ob=>have:=s01 _ _ hz;rw[hd1]at this;cases this
 refine fb (by rw[ai (Ne.symm hdp)];exact af) T.bK T.jL (by show 1<1000;decide) ?_;walk_at "rd";refine fb af T.bK T.gy (by show 2<1000;decide) ?_;rw[fN];have lk:∀(g f:Str) (v:V) (fs:List (Str×V)),¬g=f->(fm f v fs).lookup g=fs.lookup g:=fun g f v fs h=>by rw[aC,JU h]
 have l0':∀(f:Str) (v:V) (fs:List (Str×V)),(fm f v fs).lookup f=some v:=fun f v fs=>by rw[aC,JX rfl]
 refine q _ ⟨dx,_,l,d,[],fun b ob e=>?_,cF,by rw[aZ hlp];exact hl00,by rw[aZ hdp];exact hd0,af,⟨?_,?_,?_,?_,fun f a1 a2 a3=>?_⟩,?_,?_,.nil⟩
 .have hb:b≠p:=fun z=>by subst z;rw[cF]at e;cases e
  rw[aZ hb]at e;rw[ai hb,ai (aH e hd0),ai hb];exact s01 _ _ e
 .show 3<=3;decide
 .rw[lk _ _ _ _ (by decide +kernel),lk _ _ _ _ (by decide +kernel),l0']
 .rw[lk _ _ _ _ (by decide +kernel),l0']
 .rw[l0']
 .rw[lk _ _ _ _ a3,lk _ _ _ _ a2,lk _ _ _ _ a1];rfl
 .rw[ai hlp,ai (Ne.symm hdl),ai hlp];exact h1l
 .rw[ai hdp,af]
inductive ze (c:As) (vs:List V) (H:Hp) (Q:VK) (E:XK):Prop
 |mk (Hb:Hp) (a:Addr) (x:Sn12.Out) (full:Bool) (v:V) (n:List (List Nat)) (k:Nat) (_:vs=[.ref a,v,iv k]) (_:Ms c Hb H a x full) (_:Nm H v n) (_:x.places.length<16777216) (_:∀H',Ms c Hb H' a ⟨x.bytes,ic x.places n k⟩ full->Tk H H'->Q .non H')
theorem Tk.refl:Tk H H:=⟨fun _ _ e=>e,fun _ _ _ e=>e⟩
theorem gD(T:Top K mg base c):xt P w K mg base c.CM "keep_place" 1 ["self","name","place"] (ze c):=by
 have g:=T.g;refine T.lj.cl ["self","name","place"] ?_;rintro nd _ _ _ _ _ H _ Q E hr ⟨Hb,a,x,full,v,n,k,rfl,hM,hN,hpl,q⟩;refine⟨_,(ah (aR (tR kD (pv 2) (aQ g.yL)) (ah (aM (pY (dZ hr) (pD T (pv 0)) (pv 1) (pv 2) ⟨rfl,rfl,rfl,rfl⟩))) aB)),?_⟩;walk_at "rd";refine aS (fun hlt=>?_) fun hlt=>?_
 .refine hM.pla T fun d kvs hd hp up=>?_;walk_at "rd";refine⟨.inr ⟨kvs,.inl hd⟩,?_⟩;obtain⟨b,rfl,kb⟩:=hN.kat;have hlen:=Paired.length hp;have ev:=uj (n:=n) hp;have ea:=Df (n:=n) x.places;refine .inr ⟨kvs,kN n,b,hd,rfl,kb,gZ (by lia),fun y e=>?_,fun e=>?_⟩
  .have e2:ic x.places n k=x.places:=by
    unfold ic;rw[JU];rintro⟨_,z⟩;rw[ea]at z;rw[ev]at e;cases hf:x.places.find? (fun p=>p.1==n) with
    |none=>rw[hf]at e;cases e
    |some _=>rw[hf]at z;cases z
   rw[e2]at q;exact q _ hM Tk.refl
  .have e2:ic x.places n k=x.places++[(n,k)]:=by
    unfold ic;rw[JX];refine⟨by lia,?_⟩;rw[ea];rw[ev]at e;cases hf:x.places.find? (fun p=>p.1==n) with
    |none=>rfl
    |some _=>rw[hf]at e;cases e
   rw[e2]at q;obtain⟨m,tk⟩:=up (putK kvs (kN n) (iv k)) (x.places++[(n,k)]) (by rw[qA _ e];exact Paired.snoc hp ⟨rfl,rfl⟩);exact q _ m tk
 .have e2:ic x.places n k=x.places:=by
   unfold ic;rw[JU];rintro⟨z,_⟩;lia
  rw[e2]at q;exact q _ hM Tk.refl
theorem Nm.cons_of{l:List Nat}{r:List (List Nat)}(h:Nm H v (l::r)):∃b y ys,v = .ref b/\Rd H b (.tup (y::ys))/\Bt H y l/\Paired (Bt H) ys r:=by
 obtain⟨vs,⟨b,rfl,t⟩,p⟩:=h;cases p with
 |cons r1 t1=>exact⟨b,_,_,rfl,t,r1,t1⟩
theorem Ic(y:V)(ys:List V):fK (y::ys) (some 1) none=ys:=fq (y::ys) 1
inductive Fm (c:As) (vs:List V) (H:Hp) (Q:VK) (E:XK):Prop
 |mk (Hb:Hp) (a:Addr) (x:Sn12.Out) (full b:Bool) (v:V) (n:List (List Nat)) (_:vs=[.ref a,v,.bl b]) (_:Ms c Hb H a x full) (_:Nm H v n) (_:(∀q∈x.places,q.2<16384)) (_:x.bytes.length+Sn12.size n<=8000000) (_:x.places.length+n.length<=8000000) (_:∀H',Ms c Hb H' a (x.name b n) full->Q .non H')
inductive Jj (c:As) (Hb:Hp) (a:Addr) (x:Sn12.Out) (full b:Bool) (v:V) (n:List (List Nat)) (σ:St) (H':Hp):Prop
 |mk (v2 y:_) (_:σ=[some (.ref a),some v,some (.bl b),some v2]) (_:Ms c Hb H' a y full) (_:y.name b []=x.name b n) (_:y.bytes.length<=8000000)
inductive Ii (c:As) (Hb:Hp) (a:Addr) (x:Sn12.Out) (full b:Bool) (v:V) (n:List (List Nat)) (m:Nat) (σ:St) (H':Hp):Prop
 |mk (v2 y r:_) (_:m=r.length) (_:σ=[some (.ref a),some v,some (.bl b),some v2]) (_:Ms c Hb H' a y full) (_:Nm H' v2 r) (_:y.name b r=x.name b n) (_:(∀q∈y.places,q.2<16384)) (_:y.bytes.length+Sn12.size r<=8000000) (_:y.places.length+r.length<=8000000)
theorem gC(T:Top K mg base c):xt P w K mg base c.CM "write_name" 2 ["self","name","may_lead"] (Fm c):=by
 have g:=T.g;refine T.lh.cl ["self","name","may_lead","left"] ?_;rintro nd _ _ _ _ _ H _ Q E hr ⟨Hb,a,x,full,b,v,n,rfl,hM,hN,hsm,hbl,hpl,q⟩;refine⟨_,(ae (sS 3 nd (pv 1))
  (ae (hU aA (tR (qG (dZ hr)) (pv 3) (bM ag)) (ae (aR (PW.pt (jT (jU (pv 2)) (iC (ie (uo (dZ hr) (pv 3) (pD T (pv 0))))))) (ae (aM (fo Ka Ko Km eu (pD T (pv 0)) (aa (pF (cV T) hr aq (aa (aP dX (aQ g.G2) (pX (dZ hr) (pD T (pv 0)) (pv 3) (fun _ _=>rfl))) ag)) ag)))
  (ah D5)) aB)
  (ae (aM (fI (pv 0) (gD T) T.bK (hr.mono (by decide)) aq (aa (pv 3) (aa (gL T (pD T (pv 0))) ag))))
  (ae (aM (fo Ka KJ KI fz (pD T (pv 0)) (aa (gL T (xL dG (pv 3) ak)) ag)))
  (ae (aM (fo Ka Ko Km eu (pD T (pv 0)) (aa (xL dG (pv 3) ak) ag)))
  (ah (sS 3 nd (bF fO (pv 3) (bD ak) dO))))))))
  (ah (aM (fo Ka KJ KI fz (pD T (pv 0)) (aa ak ag)))))),?_⟩
 walk_at "rd";refine qf (Jj c Hb a x full b v n) ?_ fun N hN2=>?_
 .rintro σ H2 ⟨v2,y,rfl,hM2,eN,hb2⟩;walk_at "rd";refine hM2.oct T fun l hl up=>⟨oX hl,goApp hl (by rw[aD];lia) ?_⟩
  have:=(up H2 (y.bytes++[0]) (ar.refl _)).1;rw[<-eN,wk]at q;rw[<-eF]at this;exact q _ this
 .refine oZ (Ii c Hb a x full b v n) n.length ⟨v,x,n,rfl,rfl,hM,hN,rfl,hsm,hbl,hpl⟩ ?_;rintro m σ H2 ⟨v2,y,r,rfl,rfl,hM2,nm2,eN,hsm2,hb2,hp2⟩;walk_at "rd";refine⟨az (by decide),fun t ht=>?_⟩;have s3:=aj (o:=.tup []) ht;refine FG (nm2.same s3) Nm.nil ?_;have hM3:=hM2.same s3;have nm3:=nm2.same s3;generalize upd H2 t (.tup [])=H3 at s3 hM3 nm3;walk_at "rd";cases r with
  |nil =>
   rw[JU (by simp)];have:=NM.size_pos [];exact hN2 _ _ ⟨v2,y,rfl,hM3,eN,by lia⟩
  |cons lb r =>
   rw[JX (by simp)];have hszc:=NM.size_cons lb r;have hszp:=NM.size_pos r;rw[JS]at hp2;refine⟨_,fun σ' H' h=>h,?_⟩;have write:(b=true->(y.places.find? fun p=>p.1==lb::r)=none)->jg c.CM ("keep_place":Str) H3 a/\dM K ("octets":Str) H3 a fun x1 H4=>vY K [x1] H4 fun x2 H5=>ze c [.ref a,v2,x2] H5 (fun _ H6=>dM K ("octets":Str) H6 a fun x3 H7=>AX K "list" x3 H7/\DZ K v2 (.int 0) H7 fun x4 H8=>vY K [x4] H8 fun x5 H9=>iB x3 [x5] H9 fun _ H10=>dM K ("octets":Str) H10 a fun x6 H11=>AX K "list" x6 H11/\DZ K v2 (.int 0) H11 fun x7 H12=>qz K x6 [x7] H12 fun _ H13=>DY K v2 (some 1) none H13 fun x8 H14=>∃m',m'<r.length+1/\Ii c Hb a x full b v n m' [some (V.ref a),some v,some (V.bl b),some x8] H14) E:=by
    intro hnew;refine⟨hM3.ins _ (by decide +kernel) (by decide +kernel) (by decide +kernel),hM3.lenO T ?_⟩;refine⟨Hb,a,y,full,v2,lb::r,y.bytes.length,rfl,hM3,nm3,by lia,fun H4 hM4 tk4=>?_⟩;refine hM4.oct T fun l hl up=>⟨oX hl,?_⟩
    obtain⟨b2,y0,ys,rfl,hr,hy0,hys⟩:=(tk4.nm nm3).cons_of;obtain⟨lbA,rfl,hlb⟩:=id hy0;refine cT (.inl hr) (v:=.ref lbA) (bG (j:=0) rfl) (fi (.inl hlb) ?_);rw[aD];dsimp only at hl up;refine goApp hl (by rw[aD];lia) ?_;obtain⟨hM5,tk5⟩:=up H4 (y.bytes++[lb.length]) (ar.refl _);rw[<-eF]at hM5 tk5;refine hM5.oct T fun l2 hl2 up2=>⟨oX hl2,?_⟩
    obtain⟨b3,y3,ys3,e3,hr3,hy3,hys3⟩:=(tk5.nm (tk4.nm nm3)).cons_of;cases e3;obtain⟨lbA3,rfl,hlb3⟩:=id hy3;refine cT (.inl hr3) (v:=.ref lbA3) (bG (j:=0) rfl) ?_;dsimp only at hl2 up2;refine jn hl2 (.inl hlb3) (by rw[aD,aD,JT];show y.bytes.length+1+lb.length<=_;lia) ?_;obtain⟨hM6,tk6⟩:=up2 _ (y.bytes++[lb.length]++lb) (ar.refl _);rw[<-eF (y.bytes++[lb.length]) lb]at hM6 tk6;obtain⟨b6,y6,ys6,e6,hr6,hy6,hys6⟩:=(tk6.nm (tk5.nm (tk4.nm nm3))).cons_of;cases e6;refine jE hr6 fun v7 H7 s7 t7=>?_;rw[Ic]at t7;refine⟨r.length,by lia,v7,⟨y.bytes++[lb.length]++lb,ic y.places (lb::r) y.bytes.length⟩,r,rfl,rfl,hM6.same s7,⟨ys6,t7,Paired.imp (fun _ _ r=>Bt.same r s7) hys6⟩,?_,pk hsm2,?_,?_⟩
    .rw[<-eN,qS hnew,Kx];rfl
    .show(y.bytes++[lb.length]++lb).length+_<=_;rw[JT,JT];show y.bytes.length+1+lb.length+_<=_;lia
    .have:=tF (pl:=y.places) (n:=lb::r) (k:=y.bytes.length);show(ic y.places (lb::r) y.bytes.length).length+_<=_;lia
   cases hb:b with
   |false =>
    subst hb;walk_at "rd";exact write fun z=>by cases z
   |true =>
    subst hb;walk_at "rd";refine hM3.pla T fun d kvs hd hp up=>?_;obtain⟨bn,rfl,kb⟩:=nm3.kat;have ev:=uj (n:=lb::r) hp;walk_at "rd";refine⟨_,.inr ⟨kvs,kN (lb::r),bn,.inl hd,rfl,kb,rfl⟩,?_⟩;rw[ev];cases hf:y.places.find? (fun p=>p.1==lb::r) with
    |none =>
     walk_at "rd";simp only[Option.map_none,Option.isSome_none,KB,if_false];exact write fun _=>hf
    |some q0 =>
     simp only[Option.map_some,Option.isSome_some,if_true];have hq0:=hsm2 q0 (K7 hf);refine hM3.oct T fun l hl up2=>⟨oX hl,?_⟩
     refine hM3.pla T fun d2 kvs2 hd2 hp2' _=>?_;have ev2:=uj (n:=lb::r) hp2';rw[hf]at ev2;refine⟨iv q0.2,.inr ⟨kvs2,kN (lb::r),bn,.inl hd2,rfl,kb,ev2.symm⟩,?_⟩;walk_at "rd";refine⟨49152+q0.2,by rw[show((49152:Int)+(q0.2:Int))=((49152+q0.2:Nat):Int) by lia],fun v5 H5 s5 b5=>?_⟩;obtain⟨b5a,rfl,h5⟩:=b5;refine jn (s5 _ _ hl) (.inl h5) (by rw[aD,aD];show _+2<=_;lia) ?_;obtain⟨hM6,_⟩:=up2 H5 (y.bytes++dW (49152+q0.2)) s5;rw[<-eF]at hM6;rw[<-eN,qR rfl hf,<-iu (by lia)]at q;exact q _ hM6
end
section
inductive Hw (c:As) (vs:List V) (H:Hp) (Q:VK) (E:XK):Prop
 |mk (Hb:Hp) (a:Addr) (v:V) (n:List (List Nat)) (qb:List Nat) (_:vs=[.ref a,v]) (_:Ms c Hb H a ⟨List.replicate 12 0,[]⟩ false) (_:Qn c Hb v n qb) (_:Sn12.size n<=255) (_:qb.length<=65536) (_:∀H',Ms c Hb H' a ⟨List.replicate 12 0++qb,Sn12.questionPlaces n 12⟩ false->Q .non H')
inductive Ji (c:As) (Hb:Hp) (a:Addr) (n:List (List Nat)) (qa:Addr) (m:Nat) (σ:St) (H':Hp):Prop
 |mk (v2 r pl k:_) (_:m=r.length) (_:σ=[some (.ref a),some (.ref qa),some (iv k),some v2]) (_:Ms c Hb H' a ⟨List.replicate 12 0,pl⟩ false) (_:Nm H' v2 r) (_:pl++Sn12.questionPlaces r k=Sn12.questionPlaces n 12) (_:k+Sn12.size r=12+Sn12.size n) (_:(∀q∈pl,r.length<q.1.length)) (_:pl.length+r.length=n.length)
theorem i5(T:Top K mg base c):xt P w K mg base c.CM "write_question" 2 ["self","question"] (Hw c):=by
 refine T.jo.cl ["self","question","place","left"] ?_;rintro nd _ _ _ _ _ H _ Q E hr ⟨Hb,a,v,n,qb,rfl,hM,hQ,hsz,hqb,q⟩;refine⟨_,(ae (sS 2 nd (gL T (pD T (pv 0))))
  (ae (sS 3 nd (pD T (pv 1)))
  (ae (hU aA (tR (qG (dZ hr)) (pv 3) (bM ag)) (ae (aM (fI (pv 0) (gD T) T.bK (hr.mono (by decide)) aq (aa (pv 3) (aa (pv 2) ag))))
  (ae (sA 2 nd (aP dX (gL T (xL dG (pv 3) ak)) ak) rg)
  (ah (sS 3 nd (bF fO (pv 3) (bD ak) dO))))))
  (ah (aM (fo Ka Ko Km jB (pD T (pv 0)) (aa (pD T (pv 1)) ag))))))),?_⟩
 obtain⟨qa,qdx,qfs,vn,ql,rfl,hq1,hq2,hq3,hq4,hq5,_⟩:=id hQ;walk_at "rd";refine hM.lenO T ?_;walk_at "rd";refine a0 (hM.below _ _ hq1) T.eA T.ij hq2 ?_;walk_at "rd";refine qf (fun σ H'=>Ms c Hb H' a ⟨List.replicate 12 0,Sn12.questionPlaces n 12⟩ false/\∃x y,σ=[some (.ref a),some (.ref qa),x,y]) ?_ fun N hN2=>?_
 .rintro σ H2 ⟨hM2,x,y,rfl⟩;walk_at "rd";refine hM2.oct T fun l hl up=>⟨oX hl,a0 (hM2.below _ _ hq1) T.eA T.gx hq4 ?_⟩
  refine wI hl (hM2.below _ _ hq5) (by rw[aD,aD,List.length_replicate];lia) ?_;have:=(up H2 (List.replicate 12 0++qb) (ar.refl _)).1;rw[<-eF]at this;exact q _ this
 .refine oZ (Ji c Hb a n qa) n.length
   ⟨vn,n,[],12,rfl,rfl,hM,hq3.same hM.below,rfl,rfl,fun q hq=>(by cases hq),by simp⟩ ?_
  rintro m σ H2 ⟨v2,r,pl,k,rfl,rfl,hM2,nm2,eP,ek,hlt,hln⟩;have hnl:=fJ n;walk_at "rd";refine⟨az (by decide),fun t ht=>?_⟩;have s3:=aj (o:=.tup []) ht;refine FG (nm2.same s3) Nm.nil ?_;have hM3:=hM2.same s3;have nm3:=nm2.same s3;generalize upd H2 t (.tup [])=H3 at s3 hM3 nm3;walk_at "rd";cases r with
  |nil =>
   rw[JU (by simp)];have e0:Sn12.questionPlaces [] k=[]:=rfl;rw[e0,Kw]at eP;rw[eP]at hM3;exact hN2 _ _ ⟨hM3,_,_,rfl⟩
  |cons lb r =>
   rw[JX (by simp)];rw[JS]at hln;have hszc:=NM.size_cons lb r;have hszp:=NM.size_pos r;refine⟨_,fun σ' H' h=>h,?_⟩;refine⟨hM3.ins _ (by decide +kernel) (by decide +kernel) (by decide +kernel),Hb,a,_,false,v2,lb::r,k,rfl,hM3,nm3,by show pl.length<_;lia,fun H4 hM4 tk4=>?_⟩;have eadd:ic pl (lb::r) k=pl++[(lb::r,k)]:=by
    unfold ic;rw[JX];refine⟨by lia,?_⟩;rw[List.any_eq_false];intro q hq;have:=hlt q hq;have hne:q.1≠lb::r:=fun z=>by rw[z]at this;exact absurd this (KL _)
    simpa using hne
   dsimp only at hM4;rw[eadd]at hM4;obtain⟨b2,y0,ys,rfl,hr,hy0,hys⟩:=(tk4.nm nm3).cons_of;obtain⟨lbA,rfl,hlb⟩:=id hy0;walk_at "rd";refine cT (.inl hr) (v:=.ref lbA) (bG (j:=0) rfl) (fi (.inl hlb) ?_);rw[aD];walk_at "rd";refine jE hr fun v7 H7 s7 t7=>?_;rw[Ic]at t7;have ek2:(k:Int)+((lb.length:Int)+1)=((k+lb.length+1:Nat):Int):=by lia
   rw[ek2];refine⟨r.length,by lia,v7,r,pl++[(lb::r,k)],k+lb.length+1,rfl,rfl,hM4.same s7,⟨ys,t7,Paired.imp (fun _ _ r=>Bt.same r s7) hys⟩,?_,by lia,fun q hq=>?_,by rw[JT,JS,J7];lia⟩
   .rw[<-eP,Kx];rfl
   .rcases Kj.mp hq with hq|hq
    .have:=hlt q hq;rw[JS]at this;lia
    .obtain rfl:q=(lb::r,k):=by simpa using hq
     show r.length<(lb::r).length;rw[JS];lia
inductive Bh (c:As) (vs:List V) (H:Hp) (Q:VK) (E:XK):Prop
 |mk (Hb:Hp) (a:Addr) (x:Sn12.Out) (full:Bool) (v:V) (p:NM.PR) (_:vs=[.ref a,v]) (_:Ms c Hb H a x full) (_:Rec c Hb v p) (_:NM.Small p) (_:(∀q∈x.places,q.2<16384)) (_:x.bytes.length<=1000000) (_:x.places.length<=1000000) (_:∀H',Ms c Hb H' a (i7 p.kind p.said x) full->Q .non H')
inductive Jh (c:As) (Hb:Hp) (a:Addr) (x:Sn12.Out) (full:Bool) (p:NM.PR) (ra:Addr) (b1:Sn12.Bytes) (i:Nat) (σ:St) (H':Hp):Prop
 |mk (z y:_) (_:σ=[some (.ref a),some (.ref ra),z]) (_:Ms c Hb H' a y full) (_:y=jj (decide (p.kind ≠ .SRV)) (p.said.names.take i) ⟨b1,x.places⟩) (_:(∀q∈y.places,q.2<16384)) (_:y.bytes.length<=b1.length+256*i) (_:y.places.length<=x.places.length+255*i)
theorem ke(T:Top K mg base c):xt P w K mg base c.CM "write_said" 3 ["self","record"] (Bh c):=by
 refine T.lg.cl ["self","record","name"] ?_;rintro nd _ _ _ _ _ H _ Q E hr ⟨Hb,a,x,full,v,p,rfl,hM,hR,hS,hsm,hbl,hpl,q⟩;refine⟨_,(ae (aM (fo Ka Ko Km eu (pD T (pv 0)) (aa (pD T (pv 1)) ag)))
  (ae (d3 aA rfl (oq (pD T (pv 1))) (gN 2 nd) (ah (aM (fI (pv 0) (gC T) T.bK (hr.mono (by decide)) aq (aa (pv 2) (aa (lH gM (pD T (pv 1)) fB (oy _)) ag))))))
  (ah (aM (fo Ka Ko Km eu (pD T (pv 0)) (aa (pD T (pv 1)) ag)))))),?_⟩
 obtain⟨ra,rdx,rfs,rfl,rh,rf⟩:=id hR;obtain⟨vf,ef,⟨fa,rfl,hf⟩⟩:=rf.front;obtain⟨vns,en,⟨nvs,⟨na,rfl,hn⟩,pn⟩⟩:=rf.names;obtain⟨vb,eb,⟨ba,rfl,hb⟩⟩:=rf.back;have hfr:=hS.fr;have hbk:=hS.bk;have hns:=hS.ns;have hnms:=hS.nms;unfold i7 at q;dsimp only at q;walk_at "rd";refine hM.oct T fun l hl up=>⟨oX hl,a0 (hM.below _ _ rh) T.aN T.iW ef ?_⟩
 refine jn hl (.inl (ar.rd hM.below hf)) (by rw[aD,aD];lia) ?_;have hM1:=(up H (x.bytes++p.said.front) (ar.refl _)).1;rw[<-eF]at hM1;generalize upd H l (.lst (nz x.bytes++nz p.said.front))=H1 at hM1;have hbl1:(x.bytes++p.said.front).length<=1500000:=by rw[JT];lia
 generalize x.bytes++p.said.front=b1 at q hM1 hbl1;walk_at "rd";refine a0 (hM1.below _ _ rh) T.aN T.fL en ⟨⟨_,.inl (ar.rd hM1.below hn)⟩,?_⟩;have hpnl:=Paired.length pn;refine gW (H0:=Hb) (Walk.t (.inl hn)) (Jh c Hb a x full p ra b1)
  ⟨none,⟨b1,x.places⟩,rfl,hM1,rfl,hsm,JY _,JY _⟩ (fun i σ H' ⟨_,_,_,m,_,_,_,_⟩=>m.below) ?_ ?_
 .rintro i u σ H2 hu ⟨z,y,rfl,hM2,ey,hsm2,hb2,hp2⟩;obtain⟨n,hn2,nm⟩:=Paired.get pn hu;have hil:i<p.said.names.length:=(JW.mp hn2).1;have htk:p.said.names.take (i+1)=p.said.names.take i++[n]:=by rw[List.take_succ,hn2];rfl
  have hsn:=hnms n (Kr hn2);have hln:=fJ n;walk_at "rd";refine⟨hM2.ins _ (by decide +kernel) (by decide +kernel) (by decide +kernel),a0 (hM2.below _ _ rh) T.aN T.cW rf.kind ?_⟩;walk_at "rd";have eb:(!decide (kS p.kind=kS NM.Kd.SRV))=decide (p.kind ≠ .SRV):=by
   by_cases z:p.kind = .SRV
   .rw[z];decide
   .rw[Kl (fun y=>z (jl y)),KO z];rfl
  show Fm c [.ref a,u,.bl (!decide (kS p.kind=kS NM.Kd.SRV))] H2 _ E;rw[eb];obtain⟨g1,g2⟩:=jA n y (decide (p.kind ≠ .SRV));refine⟨Hb,a,y,full,decide (p.kind ≠ .SRV),u,n,rfl,hM2,nm.same hM2.below,hsm2,by lia,by lia,fun H3 hM3=>?_⟩;refine⟨_,_,rfl,hM3,?_,iR n y _ hsm2,by lia,by lia⟩;rw[ey,htk];unfold jj;rw[List.foldl_append];rfl
 .rintro σ H2 ⟨z,y,rfl,hM2,ey,hsm2,hb2,hp2⟩;rw[hpnl,List.take_length]at ey;rw[<-ey]at q;walk_at "rd";refine hM2.oct T fun l hl up=>⟨oX hl,a0 (hM2.below _ _ rh) T.aN T.js eb ?_⟩
  refine jn hl (.inl (ar.rd hM2.below hb)) (by rw[aD,aD];lia) ?_;have hM3:=(up H2 (y.bytes++p.said.back) (ar.refl _)).1;rw[<-eF]at hM3;exact q _ hM3
theorem B9(bs:List Nat)(j n:Nat):(nz bs).set j (iv n)=nz (bs.set j n):=by unfold nz;rw[List.map_set]
theorem zh:∀(l:List Nat) (i a b:Nat),i+2<=l.length->(l.set i a).set (i+1) b=l.take i++([a,b]++l.drop (i+2))
 |[],i,a,b,h=>absurd h (by simp)
 |[x],0,a,b,h=>absurd h (by simp)
 |x::y::l,0,a,b,_=>rfl
 |x::l,i+1,a,b,h=>by
  show x::((l.set i a).set (i+1) b)=x::(l.take i++([a,b]++l.drop (i+2)));rw[zh l i a b (by rw[JS]at h;lia)]
inductive DF (c:As) (vs:List V) (H:Hp) (Q:VK) (E:XK):Prop
 |mk (Hb:Hp) (a:Addr) (x:Sn12.Out) (v u:V) (n:List (List Nat)) (p:NM.PR) (_:vs=[.ref a,v,u]) (_:Ms c Hb H a x false) (_:Nm Hb v n) (_:Rec c Hb u p) (_:NM.Wf p.kind p.said) (_:NM.Small p) (_:Sn12.size n<=255) (_:(∀q∈x.places,q.2<16384)) (_:x.bytes.length<=100000) (_:x.places.length<=900000) (_:∀H',Ms c Hb H' a (iz x n p) false->Q .non H')
theorem Aw(k:NM.Kd):k.num<65536:=by cases k<;>decide
theorem jy(T:Top K mg base c):xt P w K mg base c.CM "write_record" 4 ["self","name","record"] (DF c):=by
 have g:=T.g;refine T.j4.cl ["self","name","record","size_place","size"] ?_;rintro nd _ _ _ _ _ H _ Q E hr ⟨Hb,a,x,v,u,n,p,rfl,hM,hN,hR,hW,hS,hsz,hsm,hbl,hpl,q⟩;refine⟨_,(ae (aM (fI (pv 0) (gC T) T.bK (hr.mono (by decide)) aq (aa (pv 1) (aa mY ag))))
  (ae (aM (fo Ka Ko Km eu (pD T (pv 0)) (aa (aP lI (aP lI (pF (cV T) hr aq (aa (pD T (pv 2)) ag)) (pF (cV T) hr aq (aa (aQ g.xy) ag))) (pF (kK T) hr aq (aa (pD T (pv 2)) ag))) ag)))
  (ae (sS 3 nd (gL T (pD T (pv 0))))
  (ae (aM (fo Ka Ko Km jB (pD T (pv 0)) (aa (bN (aa ak (aa ak ag))) ag)))
  (ae (aM (fI (pv 0) (ke T) T.bK (hr.mono (by decide)) aq (aa (pv 2) ag)))
  (ae (sS 4 nd (pF (cV T) hr aq (aa (aP gj (aP gj (gL T (pD T (pv 0))) (pv 3)) ak) ag)))
  (ae (BN (xL dG (pv 4) ak) (BS (pD T (pv 0)) (pv 3) set_list))
  (ah (BN (xL dG (pv 4) ak) (BS (pD T (pv 0)) (aP dX (pv 3) ak) set_list)))))))))),?_⟩
 obtain⟨ra,rdx,rfs,rfl,rh,rf⟩:=id hR;have hnl:=fJ n;walk_at "rd";refine⟨hM.ins _ (by decide +kernel) (by decide +kernel) (by decide +kernel),Hb,a,x,false,true,v,n,rfl,hM,hN.same hM.below,hsm,by lia,by lia,fun H1 hM1=>?_⟩;obtain⟨g1,g2⟩:=jA n x true;have hsm1:=iR n x true hsm;generalize hx1:x.name true n=x1 at hM1 g1 g2 hsm1;walk_at "rd";refine hM1.oct T fun l hl up=>⟨oX hl,a0 (hM1.below _ _ rh) T.aN T.ig rf.number ?_⟩
 refine⟨p.kind.num,rfl,fun v2 H2 s2 b2=>?_⟩;refine⟨1,rfl,fun v3 H3 s3 b3=>?_⟩;obtain⟨a2,rfl,h2⟩:=id b2;obtain⟨a3,rfl,h3⟩:=id b3;refine wL (ar.rd s3 h2) h3 (by unfold nz dW;simp) (by unfold nz dW;simp) fun v4 H4 s4 t4=>?_;obtain⟨a4,rfl,h4⟩:=t4;have s14:=(s2.trans s3).trans s4;refine a0 ((hM1.below.trans s14) _ _ rh) T.aN T.fA rf.time ⟨p.time,rfl,fun v5 H5 s5 b5=>?_⟩;obtain⟨a5,rfl,h5⟩:=id b5;refine wL (ar.rd s5 h4) h5 (by unfold nz dW;simp) (by unfold nz dW gF dW;simp) fun v6 H6 s6 t6=>?_;obtain⟨a6,rfl,h6⟩:=t6;have s16:=(s14.trans s5).trans s6;rw[eF,eF]at h6;refine jn (s16 _ _ hl) (.inl h6) (by rw[aD,aD];have:(dW p.kind.num++dW 1++gF p.time).length=8:=rfl;lia) ?_;have hM2:=(up H6 (x1.bytes++(dW p.kind.num++dW 1++gF p.time)) s16).1;rw[<-eF]at hM2;generalize upd H6 l (.lst (nz x1.bytes++nz (dW p.kind.num++dW 1++gF p.time)))=H7 at hM2;have hl8:(dW p.kind.num++dW 1++gF p.time).length=8:=rfl;generalize hhd:dW p.kind.num++dW 1++gF p.time=hd at hM2 hl8;walk_at "rd";refine hM2.lenO T ?_;dsimp only;rw[JT,hl8];walk_at "rd";refine hM2.oct T fun l2 hl2 up2=>⟨oX hl2,az (by decide),fun z hz=>?_⟩
 have sz:=aj (o:=.lst [V.int 0,V.int 0]) hz;dsimp only at hl2 up2;refine wI (sz _ _ hl2) af (by rw[aD,JT];show _+2<=_;lia) ?_;have hM3:=(up2 _ (x1.bytes++hd++[0,0]) sz).1;rw[<-eF (x1.bytes++hd)]at hM3;have hM3:Ms c Hb (upd (upd H7 z (.lst [V.int 0,V.int 0])) l2 (.lst (nz (x1.bytes++hd)++[V.int 0,V.int 0]))) a ⟨x1.bytes++hd++[0,0],x1.places⟩ false:=hM3;generalize upd (upd H7 z (.lst [V.int 0,V.int 0])) l2 (.lst (nz (x1.bytes++hd)++[V.int 0,V.int 0]))=H8 at hM3;have hrh:bJ x (ax (n,p))=⟨x1.bytes++hd++[0,0],x1.places⟩:=by
  unfold bJ;have e1:(ax (n,p)).name=n:=rfl;have e2:(ax (n,p)).type=p.kind.num:=rfl;have e3:(ax (n,p)).ttl=p.time:=rfl;rw[e1,e2,e3,hx1,<-hhd,iu (Aw p.kind),iu (by decide),wN (by have:=hS.tm;lia)];simp only[Kx]
 have hst:(x1.bytes++hd++[0,0]).length=x1.bytes.length+10:=by rw[JT,JT,hl8];rfl
 unfold iz at q;dsimp only at q;rw[qo hW,hrh]at q;walk_at "rd";refine⟨hM3.ins _ (by decide +kernel) (by decide +kernel) (by decide +kernel),Hb,a,_,false,.ref ra,p,rfl,hM3,hR,hS,hsm1,by show(x1.bytes++hd++[0,0]).length<=_;lia,by show x1.places.length<=_;lia,fun H9 hM4=>?_⟩;obtain⟨yy,hyy⟩:=d6 (NM.piecesOf p.kind p.said) ⟨x1.bytes++hd++[0,0],x1.places⟩;rw[qo hW]at hyy;generalize i7 p.kind p.said ⟨x1.bytes++hd++[0,0],x1.places⟩=bd at q hM4 hyy;dsimp only at hyy q;rw[hst]at q;have hbdl:bd.bytes.length=x1.bytes.length+10+yy.length:=by rw[hyy,JT,hst]
 walk_at "rd";refine hM4.lenO T ?_;walk_at "rd";have esz:((bd.bytes.length:Int)-((x1.bytes.length+8:Nat):Int)-2)=((bd.bytes.length-(x1.bytes.length+10):Nat):Int):=by lia
 refine⟨bd.bytes.length-(x1.bytes.length+10),by rw[esz],fun v10 H10 s10 b10=>?_⟩;generalize bd.bytes.length-(x1.bytes.length+10)=dl at q b10;obtain⟨a10,rfl,h10⟩:=b10;have h10:Rd H10 a10 (.tup [iv (dl/256),iv (dl%256)]):=h10;have hM5:=hM4.same s10;walk_at "rd";refine cT (.inl h10) (v:=iv (dl/256)) (bG (j:=0) rfl) ?_;walk_at "rd";refine hM5.oct T fun l5 hl5 up5=>?_;refine CA hl5 (j:=x1.bytes.length+8) rfl (by rw[aD];lia) ?_;rw[B9];obtain⟨hM6,tk6⟩:=up5 H10 (bd.bytes.set (x1.bytes.length+8) (dl/256)) (ar.refl _);have h11:Rd (upd H10 l5 (.lst (nz (bd.bytes.set (x1.bytes.length+8) (dl/256))))) a10 (.tup [iv (dl/256),iv (dl%256)]):=by
  obtain⟨z,e,r⟩:=tk6.tp (v:=.ref a10) ⟨a10,rfl,h10⟩;cases e;exact r
 generalize upd H10 l5 (.lst (nz (bd.bytes.set (x1.bytes.length+8) (dl/256))))=H11 at hM6 h11;walk_at "rd";refine cT (.inl h11) (v:=iv (dl%256)) (bG (j:=1) rfl) ?_;walk_at "rd";refine hM6.oct T fun l6 hl6 up6=>?_;dsimp only at hl6 up6;refine CA hl6 (j:=x1.bytes.length+9) (by lia) (by rw[aD,List.length_set];lia) ?_;rw[B9];have hM7:=(up6 H11 ((bd.bytes.set (x1.bytes.length+8) (dl/256)).set (x1.bytes.length+9) (dl%256)) (ar.refl _)).1;rw[zh _ _ _ _ (by lia)]at hM7 ⊢;exact q _ hM7
end
section
section
variable{x:Sn12.Out}
theorem Ms.setOct{Q:Hp->Prop}{l':Addr}{bs:List Nat}(T:Top K mg base c)(h:Ms c Hb H a x full)(hb:Hb l'=none)(hl':H l'=some (.lst (nz bs)))(q:∀H',Ms c Hb H' a ⟨bs,x.places⟩ full->Q H'):pB K ("octets":Str) (.ref l') H a Q:=by
 obtain⟨dx,fs,l,d,kvs,sb,b1,b2,b3,h1,f,h2,h3,p⟩:=h;have hlen:=f.len;refine fb h1 T.bK T.gS (by lia) (q _ ⟨dx,_,l',d,kvs,a8 sb b1,b1,hb,b3,af,⟨?_,?_,?_,?_,fun g a1 a2 a3=>?_⟩,?_,?_,p⟩)
 .rw[jC f.oct];exact f.len
 .rw[aC,JX rfl]
 .rw[aC,JU (by decide +kernel)];exact f.pla
 .rw[aC,JU (by decide +kernel)];exact f.ful
 .rw[aC,JU a1];exact f.oth g a1 a2 a3
 .rw[ai (bH hl' h1 (by simp))];exact hl'
 .rw[ai (bH h3 h1 (by simp))];exact h3
theorem Ms.setFull{Q:Hp->Prop}{k:Bool}(T:Top K mg base c)(h:Ms c Hb H a x full)(q:∀H',Ms c Hb H' a x k->Q H'):pB K ("is_full":Str) (.bl k) H a Q:=by
 obtain⟨dx,fs,l,d,kvs,sb,b1,b2,b3,h1,f,h2,h3,p⟩:=h;have hlen:=f.len;refine fb h1 T.bK T.gy (by lia) (q _ ⟨dx,_,l,d,kvs,a8 sb b1,b1,b2,b3,af,⟨?_,?_,?_,?_,fun g a1 a2 a3=>?_⟩,?_,?_,p⟩)
 .rw[jC f.ful];exact f.len
 .rw[aC,JU (by decide +kernel)];exact f.oct
 .rw[aC,JU (by decide +kernel)];exact f.pla
 .rw[aC,JX rfl]
 .rw[aC,JU a3];exact f.oth g a1 a2 a3
 .rw[ai (bH h2 h1 (by simp))];exact h2
 .rw[ai (bH h3 h1 (by simp))];exact h3
end
inductive DG (c:As) (vs:List V) (H:Hp) (Q:VK) (E:XK):Prop
 |mk (Hb:Hp) (a:Addr) (x:Sn12.Out) (v u:V) (n:List (List Nat)) (p:NM.PR) (_:vs=[.ref a,v,u]) (_:Ms c Hb H a x false) (_:Nm Hb v n) (_:Rec c Hb u p) (_:NM.Wf p.kind p.said) (_:NM.Small p) (_:Sn12.size n<=255) (_:(∀q∈x.places,q.2<16384)) (_:x.bytes.length<=512) (_:x.places.length<=900000) (_:((x.record (ax (n,p))).bytes.length<=512->∀H',Ms c Hb H' a (x.record (ax (n,p))) false->Q .non H')) (_:(512<(x.record (ax (n,p))).bytes.length->∀H' pl,Ms c Hb H' a ⟨x.bytes,pl⟩ true->Q .non H'))
theorem rW(x:Sn12.Out)(n:List (List Nat))(p:NM.PR):(iz x n p).bytes.take x.bytes.length=x.bytes:=by
 unfold iz;dsimp only;obtain⟨y,hy⟩:=d6 (NM.piecesOf p.kind p.said) (bJ x (ax (n,p)));obtain⟨z,hz,hz1⟩:=gP n x true;have hh:(bJ x (ax (n,p))).bytes=x.bytes++(z++(Sn12.two p.kind.num++(Sn12.two 1++Sn12.four p.time)++[0,0])):=by
  show(x.name true n).bytes++_=_;rw[hz,Kx];rfl
 have hl:(bJ x (ax (n,p))).bytes.length-2=x.bytes.length+(z.length+8):=by
  rw[hh,JT,JT];show x.bytes.length+(z.length+10)-2=_;lia
 rw[hl,hy,hh,Kx,List.take_append,List.take_take];have e1:min x.bytes.length (x.bytes.length+(z.length+8))=x.bytes.length:=by lia
 rw[e1,List.take_append_of_le_length (JY _),List.take_length];have e2:x.bytes.length-(List.take (x.bytes.length+(z.length+8)) (x.bytes++((z++(Sn12.two p.kind.num++(Sn12.two 1++Sn12.four p.time)++[0,0]))++y))).length=0:=by
  rw[Kf,JT];have:(z++(Sn12.two p.kind.num++(Sn12.two 1++Sn12.four p.time)++[0,0])).length=z.length+10:=by rw[JT];rfl
  rw[JT,this];lia
 rw[e2,List.take_zero,Kw]
theorem iF(T:Top K mg base c):xt P w K mg base c.CM "write_if_it_fits" 5 ["self","name","record"] (DG c):=by
 have g:=T.g;refine T.iU.cl ["self","name","record","end"] ?_;rintro nd _ _ _ _ _ H _ Q E hr ⟨Hb,a,x,v,u,n,p,rfl,hM,hN,hR,hW,hS,hsz,hsm,hbl,hpl,q1,q2⟩;refine⟨_,(ae (sS 3 nd (gL T (pD T (pv 0))))
  (ae (aM (fI (pv 0) (jy T) T.bK (hr.mono (by decide)) aq (aa (pv 1) (aa (pv 2) ag))))
  (ah (aR (tR iP (gL T (pD T (pv 0))) (aQ g.pT)) (ae (cK (pv 0) (bF f9 (pD T (pv 0)) dO (bD (pv 3))) rfl)
  (ah (cK (pv 0) mY rfl))) aB)))),?_⟩
 walk_at "rd";refine hM.lenO T ?_;walk_at "rd";refine⟨hM.ins _ (by decide +kernel) (by decide +kernel) (by decide +kernel),Hb,a,x,v,u,n,p,rfl,hM,hN,hR,hW,hS,hsz,hsm,by lia,hpl,fun H1 hM1=>?_⟩;have hlen:=vS x n p;have hfr:=rW x n p;walk_at "rd";refine hM1.lenO T ?_;walk_at "rd";refine aS (fun hgt=>?_) fun hgt=>?_
 .refine hM1.oct T fun l hl up=>rp (aY.of hl) fun l' hl'=>?_;rw[zN,hfr];have s2:=aj (o:=.lst (nz x.bytes)) hl';have hbl':Hb l'=none:=by
   cases hz:Hb l' with
   |none=>rfl
   |some ob=>have:=hM1.below _ _ hz;rw[hl']at this;cases this
  refine(hM1.same s2).setOct T hbl' af fun H3 hM3=>?_;walk_at "rd";exact hM3.setFull T fun H4 hM4=>q2 (by lia) _ _ hM4
 .rw[xZ (by lia)]at hM1;exact q1 (by lia) _ hM1
theorem vR(x:Sn12.Out)(k:Nat):x.records [] k=(x,k,true):=rfl
theorem vQ{x:Sn12.Out}{r:Sn12.Record}(h:512<(x.record r).bytes.length):x.records (r::rs) k=(x,k,false):=by
 rw[Sn12.Out.records];exact JX (show Sn12.LIMIT<_ from h)
theorem xY{x:Sn12.Out}{r:Sn12.Record}(h:¬512<(x.record r).bytes.length):x.records (r::rs) k=(x.record r).records rs (k+1):=by
 rw[Sn12.Out.records];exact JU (show ¬Sn12.LIMIT<_ from h)
theorem rV{x:Sn12.Out}{p:NM.PR}(hW:NM.Wf p.kind p.said)(hS:NM.Small p)(hsz:Sn12.size n<=255)(h:∀q∈x.places,q.2<16384):(∀q∈(x.record (ax (n,p))).places,q.2<16384)/\(x.record (ax (n,p))).places.length<=x.places.length+3000:=by
 rw[iL];dsimp only;have hd:(ax (n,p)).data=NM.piecesOf p.kind p.said:=rfl;rw[hd,qo hW];have h1:=iR n x true h;obtain⟨g1,_⟩:=jA n x true;have hnl:=fJ n;have hpl:(bJ x (ax (n,p))).places=(x.name true n).places:=rfl;unfold i7;dsimp only;rw[hpl];have key:∀(ns:List (List (List Nat))) (y:Sn12.Out) (b:Bool),(∀n∈ns,Sn12.size n<=255)->(jj b ns y).places.length<=y.places.length+255*ns.length:=by
  intro ns;induction ns with
  |nil=>intro y b _;exact JY _
  |cons m ns ih =>
   intro y b hn;have h2:=ih (y.name b m) b fun n hn'=>hn n (J0 _ hn');obtain⟨g2,_⟩:=jA m y b;have:=hn m J8;have:=fJ m;show(jj b ns (y.name b m)).places.length<=_;rw[JS];lia
 have k1:=key p.said.names ⟨(bJ x (ax (n,p))).bytes++p.said.front,(x.name true n).places⟩ (decide (p.kind ≠ .SRV)) hS.nms;dsimp only at k1;have:=hS.ns;exact⟨nv _ _ _ h1,by lia⟩
structure ET (ps:List NM.Pair):Prop where
 all:∀q∈ps,Sn12.size q.1<=255/\NM.Wf q.2.kind q.2.said/\NM.Small q.2
inductive lE (c:As) (vs:List V) (H:Hp) (Q:VK) (E:XK):Prop
 |mk (Hb:Hp) (a l:Addr) (x:Sn12.Out) (full:Bool) (ws:List V) (ps:List NM.Pair) (_:vs=[.ref a,.ref l]) (_:Ms c Hb H a x full) (_:Hb l=some (.lst ws)) (_:Paired (Pr c Hb) ws ps) (_:ET ps) (_:((full=true/\∀H',Ms c Hb H' a x true->Q (iv 0) H')\/(full=false/\(∀q∈x.places,q.2<16384)/\x.bytes.length<=512/\x.places.length<=500000/\∀H' pl,Ms c Hb H' a ⟨(x.records (ps.map ax) 0).1.bytes,pl⟩ (!(x.records (ps.map ax) 0).2.2)->((x.records (ps.map ax) 0).2.2=true->pl=(x.records (ps.map ax) 0).1.places/\(∀q∈pl,q.2<16384)/\pl.length<=x.places.length+150000)->Q (iv (x.records (ps.map ax) 0).2.1) H')))
inductive Jg (c:As) (Hb:Hp) (a l:Addr) (x:Sn12.Out) (i:Nat) (σ:St) (H':Hp):Prop
 |mk (z:_) (_:σ=[some (.ref a),some (.ref l),some (iv 0),z]) (_:Ms c Hb H' a x true)
inductive Jf (c:As) (Hb:Hp) (a l:Addr) (x:Sn12.Out) (ps:List NM.Pair) (RR:Sn12.Out×Nat×Bool) (i:Nat) (σ:St) (H':Hp):Prop
 |mk (z y:_) (_:σ=[some (.ref a),some (.ref l),some (iv i),z]) (_:Ms c Hb H' a y false) (_:y.records ((ps.drop i).map ax) i=RR) (_:(∀q∈y.places,q.2<16384)) (_:y.bytes.length<=512) (_:11*i<=y.bytes.length) (_:y.places.length<=x.places.length+3000*i)
theorem eg(T:Top K mg base c):xt P w K mg base c.CM "write_section" 6 ["self","pairs"] (lE c):=by
 refine T.jH.cl ["self","pairs","written","pair"] ?_;rintro nd _ _ _ _ _ H _ Q E hr ⟨Hb,a,l,x,full,ws,ps,rfl,hM,hl,hP,hok,q⟩;refine⟨_,(ae (sS 2 nd ak)
  (ae (d3 aA rfl (cG (pv 1)) (gN 3 nd) (ae (aR (jV (jU (pD T (pv 0)))) (ah (aM (fI (pv 0) (iF T) T.bK (hr.mono (by decide)) aq (aa (xL dG (pv 3) ak) (aa (xL dG (pv 3) ak) ag))))) aB)
  (ae (aR (jU (pD T (pv 0))) (ah (ay (pv 2))) aB)
  (ah (sA 2 nd ak rg)))))
  (ah (ay (pv 2))))),?_⟩
 have hpl:=Paired.length hP;walk_at "rd";refine⟨⟨_,aY.of (hM.below _ _ hl)⟩,?_⟩;rcases q with⟨rfl,q⟩|⟨rfl,hsm,hbl,hpls,q⟩
 .refine gW (H0:=Hb) (Walk.l (aY.of hl)) (Jg c Hb a l x) ⟨none,rfl,hM⟩ (fun i σ H' ⟨_,_,m⟩=>m.below) ?_ ?_
  .rintro i u σ H2 hu ⟨z,rfl,hM2⟩;walk_at "rd";refine hM2.fullO T ?_;walk_at "rd";refine hM2.fullO T ?_;walk_at "rd";exact q _ hM2
  .rintro σ H2 ⟨z,rfl,hM2⟩;walk_at "rd";exact q _ hM2
 .generalize hRR:x.records (ps.map ax) 0=RR at q;refine gW (H0:=Hb) (Walk.l (aY.of hl)) (Jf c Hb a l x ps RR) ⟨none,x,rfl,hM,hRR,hsm,hbl,by lia,JY _⟩ (fun i σ H' ⟨_,_,_,m,_,_,_,_,_⟩=>m.below) ?_ ?_
  .rintro i u σ H2 hu ⟨z,y,rfl,hM2,eR,hsm2,hb2,hi2,hp2⟩;obtain⟨pq,hpq,hr0⟩:=Paired.get hP hu;have hil:i<ps.length:=(JW.mp hpq).1;obtain⟨h1,h2,h3⟩:=hok.all pq (Kr hpq);have hdrop:ps.drop i=pq::ps.drop (i+1):=by
    rw[K8 hil];congr 1;exact(JW.mp hpq).2
   rw[hdrop,J5]at eR;obtain⟨xa,xb,⟨ta,rfl,tt⟩,nn,rr⟩:=hr0;have hgr:=jQ y (ax pq);obtain⟨g1,g2⟩:=rV (x:=y) (n:=pq.1) (p:=pq.2) h2 h3 h1 hsm2;walk_at "rd";refine hM2.fullO T ?_;walk_at "rd";refine⟨hM2.ins _ (by decide +kernel) (by decide +kernel) (by decide +kernel),cT (.inl (ar.rd hM2.below tt)) (v:=xa) (bG (j:=0) rfl) (cT (.inl (ar.rd hM2.below tt)) (v:=xb) (bG (j:=1) rfl) ?_)⟩;refine⟨Hb,a,y,xa,xb,pq.1,pq.2,rfl,hM2,nn,rr,h2,h3,h1,hsm2,hb2,by lia,fun hfit H3 hM3=>?_,fun hbig H3 pl hM3=>?_⟩
   .walk_at "rd";refine hM3.fullO T ?_;walk_at "rd";rw[xY (by show ¬512<(y.record (ax (pq.1,pq.2))).bytes.length;lia)]at eR;exact⟨_,_,by rw[show((i:Int)+1)=((i+1:Nat):Int) by lia],hM3,eR,g1,hfit,by have:y.bytes.length+11<=(y.record (ax (pq.1,pq.2))).bytes.length:=hgr;lia,by lia⟩
   .walk_at "rd";refine hM3.fullO T ?_;walk_at "rd";rw[vQ (by exact hbig)]at eR;subst eR;exact q _ pl hM3 fun z=>by cases z
  .rintro σ H2 ⟨z,y,rfl,hM2,eR,hsm2,hb2,hi2,hp2⟩;rw[hpl,List.drop_length,Lh,vR]at eR;subst eR;walk_at "rd";rw[hpl];exact q _ y.places hM2 fun _=>⟨rfl,hsm2,by rw[hpl]at hp2 hi2;lia⟩
end
section
theorem bor(a b:Nat):Builtin.bitOr (a:Int) (b:Int)=((a ||| b:Nat):Int):=by
 rw[Bits.bitOr_pp (by lia) (by lia),Lj,Lj]
theorem band(a b:Nat):Builtin.bitAnd (a:Int) (b:Int)=((a &&& b:Nat):Int):=by
 rw[bitAnd_pp (by lia) (by lia),Lj,Lj]
inductive iw (K:Lq) (vs:List V) (H:Hp) (Q:VK) (E:XK):Prop
 |mk (a l:Addr) (bs cs:List Nat) (bits code:Nat) (_:vs=[.ref a,iv bits,iv code,.ref l]) (_:aY K H a (nz bs)) (_:12<=bs.length) (_:H l=some (.lst (nz cs))) (_:cs.length<=4) (_:i6 H Q Fl (gE bs bits code cs))
inductive Je (H:Hp) (a l:Addr) (cs:List Nat) (bits code:Nat) (m:Addr) (hd:List Nat) (i:Nat) (σ:St) (H':Hp):Prop
 |mk (x y:_) (_:σ=[some (.ref a),some (iv bits),some (iv code),some (.ref l),y,some (.ref m),x]) (_:ar H H') (_:H' m=some (.lst (nz (hd++(cs.take i).flatMap dW)))) (_:i<=cs.length)
theorem lJ(T:Top K mg base c):gz P w K mg base "header" 2 ["query","bits","code","counts"] (iw K):=by
 have g:=T.g;have hk:=T.hk;refine T.C2.cl ["query","bits","code","counts","kept","octets","count"] ?_;rintro nd _ _ _ _ _ H _ Q E hr ⟨a,l,bs,cs,bits,code,rfl,hS,h12,hl,hcl,q⟩;refine⟨_,(ae (sS 4 nd (aP yj (xL cH (pv 0) ak) (aP B4 (aQ g.pC) (aQ g.sH))))
  (ae (sS 5 nd (bN (aa (xL cH (pv 0) ak) (aa (xL cH (pv 0) ak) (aa (aP B4 (aP B4 (aQ g.tI) (pv 4)) (pv 1)) (aa (pv 2) ag))))))
  (ae (d3 aA rfl (cG (pv 3)) (gN 6 nd) (ah (aM (fo Ka Ko Km eu (pv 5) (aa (pF (cV T) hr aq (aa (pv 6) ag)) ag)))))
  (ah (ay (pv 5)))))),?_⟩
 walk_at "rd";refine dP hS (at_getD (i:=2) (by lia) rfl) ?_;walk_at "rd";refine dP hS (at_getD (i:=0) (by lia) rfl) (dP hS (at_getD (i:=1) (by lia) rfl) ?_);walk_at "rd";refine⟨az (by decide),fun m hm=>?_⟩;have e3:Builtin.bitOr (Builtin.bitOr 128 (Builtin.bitAnd (bs.getD 2 0:Int) (Builtin.bitOr 120 1))) (bits:Int)=((128 ||| (bs.getD 2 0 &&& 121) ||| bits:Nat):Int):=by
  have e1:Builtin.bitOr 120 1=((121:Nat):Int):=bor 120 1;rw[e1,band];have e2:Builtin.bitOr 128 ((bs.getD 2 0 &&& 121:Nat):Int)=((128 ||| (bs.getD 2 0 &&& 121):Nat):Int):=bor 128 _;rw[e2,bor]
 have h1m:(upd H m (.lst [iv (bs.getD 0 0),iv (bs.getD 1 0),V.int (Builtin.bitOr (Builtin.bitOr 128 (Builtin.bitAnd (bs.getD 2 0:Int) (Builtin.bitOr 120 1))) (bits:Int)),iv code])) m=some (.lst (nz [bs.getD 0 0,bs.getD 1 0,128 ||| (bs.getD 2 0 &&& 121) ||| bits,code])):=by
  rw[af,e3];rfl
 have s1:=aj (o:=.lst [iv (bs.getD 0 0),iv (bs.getD 1 0),V.int (Builtin.bitOr (Builtin.bitOr 128 (Builtin.bitAnd (bs.getD 2 0:Int) (Builtin.bitOr 120 1))) (bits:Int)),iv code]) hm;generalize upd H m (.lst [iv (bs.getD 0 0),iv (bs.getD 1 0),V.int (Builtin.bitOr (Builtin.bitOr 128 (Builtin.bitAnd (bs.getD 2 0:Int) (Builtin.bitOr 120 1))) (bits:Int)),iv code])=H1 at h1m s1;unfold gE at q;generalize hhd:[bs.getD 0 0,bs.getD 1 0,128 ||| (bs.getD 2 0 &&& 121) ||| bits,code]=hd at h1m q;have hdl:hd.length=4:=by rw[<-hhd];rfl
 walk_at "rd";refine⟨⟨_,aY.of (s1 _ _ hl)⟩,?_⟩;refine gW (H0:=H) (Walk.l (aY.of hl)) (Je H a l cs bits code m hd) ⟨none,_,rfl,s1,by rw[List.take_zero,List.flatMap_nil,Kw];exact h1m,Kq _⟩ (fun i σ H' ⟨_,_,_,s,_,_⟩=>s) ?_ ?_
 .rintro i u σ H2 hu ⟨x,y,rfl,s2,h2m,hi⟩;obtain⟨k,hk,rfl⟩:=qO hu;have hil:i<cs.length:=(JW.mp hk).1;have htk:cs.take (i+1)=cs.take i++[k]:=by rw[List.take_succ,hk];rfl
  walk_at "rd";refine⟨oX h2m,k,rfl,fun v3 H3 s3 b3=>?_⟩;obtain⟨b3a,rfl,h3⟩:=b3;have hfl:((cs.take i).flatMap dW).length=2*(cs.take i).length:=k8 (k:=2) (fun _=>rfl) _;rw[Kf]at hfl;refine jn (s3 _ _ h2m) (.inl h3) (by rw[aD,aD,JT,hfl,hdl];show _+2<=_;lia) ?_;refine⟨_,_,rfl,a8 (s2.trans s3) hm,?_,hil⟩;rw[af,eF,htk,List.flatMap_append,Kx];simp
 .rintro σ H2 ⟨x,y,rfl,s2,h2m,hi⟩;rw[aD,List.take_length]at h2m;walk_at "rd";exact q _ _ s2 ⟨m,rfl,h2m⟩
theorem Ms.grow{x:Sn12.Out}(h:Ms c Hb H a x full)(s:ar H H'):∃Hb',ar Hb Hb'/\Ms c Hb' H' a x full/\(∀b o,H' b=some o->H b=none->Hb' b=some o)/\(∀v q,Pr c H' v q->Pr c Hb' v q):=by
 obtain⟨dx,fs,l,d,kvs,sb,b1,b2,b3,h1,f,h2,h3,p⟩:=h;have hal:a≠l:=bH h1 h2 (by simp);have had:a≠d:=bH h1 h3 (by simp);have hld:l≠d:=bH h2 h3 (by simp);have hname:=f.oth "name" (by decide +kernel) (by decide +kernel) (by decide +kernel);refine⟨wo (wo (wo H' a) l) d,ik (ik (ik (sb.trans s) b1) b2) b3,⟨dx,fs,l,d,kvs,(fD.trans fD).trans fD,?_,?_,cF,s _ _ h1,f,s _ _ h2,s _ _ h3,p⟩,fun b o e hn=>?_,fun v q hp=>?_⟩
 .rw[aZ had,aZ hal,cF]
 .rw[aZ hld,cF]
 .rw[aZ (fun z=>by subst z;rw[h3]at hn;cases hn),aZ (fun z=>by subst z;rw[h2]at hn;cases hn),aZ (fun z=>by subst z;rw[h1]at hn;cases hn)];exact e
 .have p1:=hp.out (s _ _ h1) hname;have g2:(wo H' a) l=some (.lst (nz x.bytes)):=by rw[aZ (Ne.symm hal)];exact s _ _ h2
  have g3:(wo (wo H' a) l) d=some (.dT kvs):=by rw[aZ (Ne.symm hld),aZ (Ne.symm had)];exact s _ _ h3
  have rk:Rk (wo H' a) (wo (wo (wo H' a) l) d):=fun b ob eb n1 n2=>by
   have hbl:b≠l:=fun z=>by subst z;rw[g2]at eb;cases eb;exact n1 _ rfl
   have hbd:b≠d:=fun z=>by
    have g4:(wo H' a) d=some (.dT kvs):=by rw[aZ (Ne.symm had)];exact s _ _ h3
    subst z;rw[g4]at eb;cases eb;exact n2 _ rfl
   rw[aZ hbd,aZ hbl];exact eb
  obtain⟨xa,xb,t,nn,rr⟩:=p1;exact⟨xa,xb,rk.tk.tp t,rk.tk.nm nn,rr.rk rk⟩
theorem Ms.put{x:Sn12.Out}{o ob:HO}(h:Ms c Hb H a x full)(hp:Hb p=some ob):Ms c (wo Hb p) (upd H p o) a x full:=by
 obtain⟨dx,fs,l,d,kvs,sb,b1,b2,b3,h1,f,h2,h3,pl⟩:=h;have n1:a≠p:=fun z=>by subst z;rw[hp]at b1;cases b1
 have n2:l≠p:=fun z=>by subst z;rw[hp]at b2;cases b2
 have n3:d≠p:=fun z=>by subst z;rw[hp]at b3;cases b3
 exact⟨dx,fs,l,d,kvs,a8 (fD.trans sb) cF,by rw[aZ n1];exact b1,by rw[aZ n2];exact b2,by rw[aZ n3];exact b3,by rw[ai n1];exact h1,f,by rw[ai n2];exact h2,by rw[ai n3];exact h3,pl⟩
theorem Eg{xs:List NM.PR}(hwf:∀p∈xs,NM.Wf p.kind p.said)(hsm:∀p∈xs,NM.Small p)(hn:∀q∈an++au,Sn12.size q.1<=255/\q.2∈xs):ET (NM.more xs ((ip (an++au)).foldl aF [])):=by
 refine⟨fun q hq=>?_⟩;unfold NM.more at hq;obtain⟨n,hn1,hq⟩:=List.mem_flatMap.mp hq;obtain⟨p,hp,rfl⟩:=KZ.mp hq;have hpx:p∈xs:=by
  rcases Kj.mp hp with z|z
  .exact(iG.mp z).1
  .exact(iG.mp z).1
 refine⟨?_,hwf p hpx,hsm p hpx⟩;rcases(m6 _ _ _).mp hn1 with z|z
 .cases z
 .unfold ip at z;obtain⟨r,hr,e⟩:=List.mem_filterMap.mp z;have hr:=(Lb.mp hr).1;exact(hsm r.2 (hn r hr).2).nms n (List.mem_of_head? e)
inductive FX (K:Lq) (c:As) (vs:List V) (H:Hp) (Q:VK) (E:XK):Prop
 |mk (v u:V) (a:Addr) (bs qb:List Nat) (n o:List (List Nat)) (xs:List NM.PR) (_:vs=[v,.ref a,u]) (_:oU c H v o xs) (_:aY K H a (nz bs)) (_:12<=bs.length) (_:Qn c H u n qb) (_:Sn12.size n<=255) (_:qb.length<=300) (_:i6 H Q Fl (Cf o xs bs n qb))
theorem my(T:Top K mg base c):gz P w K mg base "looked_up_reply" 8 ["zone","query","question"] (FX K c):=by
 have g:=T.g;have hk:=T.hk;refine T.nO.cl ["zone","query","question","finding","message","counts","bits"] ?_;rintro nd _ _ _ _ _ H _ Q E hr ⟨v,u,a,bs,qb,n,o,xs,rfl,hO,hS,h12,hQ,hsz,hqb,q⟩;refine⟨_,(ae (sS 3 nd (pF (yl T) hr aq (aa (pv 0) (aa (pD T (pv 2)) (aa (pD T (pv 2)) ag)))))
  (ae (sS 4 nd (BU (lV T) T.Ax (hr.mono (by decide)) aq))
  (ae (aM (fI (pv 4) (i5 T) T.bK (hr.mono (by decide)) aq (aa (pv 2) ag)))
  (ae (sS 5 nd (bN (aa ak (aa (fI (pv 4) (eg T) T.bK (hr.mono (by decide)) aq (aa (pD T (pv 3)) ag)) (aa (fI (pv 4) (eg T) T.bK (hr.mono (by decide)) aq (aa (pD T (pv 3)) ag)) ag)))))
  (ae (sS 6 nd (iO (jU (pD T (pv 3))) (aQ g.EV) ak))
  (ae (aR (jU (pD T (pv 4))) (ah (sA 6 nd (aQ g.xC) HN)) aB)
  (ae (aM (fo Ka KJ KI fz (pv 5) (aa (fI (pv 4) (eg T) T.bK (hr.mono (by decide)) aq (aa (pF (mz T) hr aq (aa (pv 0) (aa (pv 3) ag))) ag)) ag)))
  (ah (ay (aP kE (pF (lJ T) hr aq (aa (pv 1) (aa (pv 6) (aa (pD T (pv 3)) (aa (pv 5) ag))))) (bF f9 (pD T (pv 4)) (bD (aQ g.fM)) dO))))))))))),?_⟩
 obtain⟨qa,qdx,qfs,vn,ql,rfl,hq1,hq2,hq3,hq4,hq5,hq6,hq7⟩:=id hQ;have hfew:=hO.sv.few;walk_at "rd";refine a0 hq1 T.eA T.ij hq2 (a0 hq1 T.eA T.jf hq6 ?_);refine⟨v,vn,n,o,_,xs,rfl,hO,hq3,hsz,fun fa la code own an au H1 s1 hfa0 hla0 hF eL hnq hal hul=>?_⟩;walk_at "rd";intro ma dx hma hdx hne;have sx:ar H1 (upd (upd H1 dx (.own ma)) ma (.ins c.CM dx [])):=(aj hdx).trans (aj (by rw[ai (Ne.symm hne)];exact hma));generalize hH2:upd (upd H1 dx (.own ma)) ma (.ins c.CM dx [])=H2 at sx;have h2m:H2 ma=some (.ins c.CM dx []):=by rw[<-hH2,af]
 clear hH2;have swo:ar H1 (wo H2 ma):=ik sx hma;refine⟨ma,dx,rfl,h2m,fun H3 hM3=>⟨rfl,?_⟩⟩;generalize wo H2 ma=Hb at swo hM3;have sHb:=s1.trans swo;walk_at "rd";refine⟨hM3.ins _ (by decide +kernel) (by decide +kernel) (by decide +kernel),Hb,ma,.ref qa,n,qb,rfl,hM3,hQ.same sHb,hsz,by lia,fun H4 hM4=>?_⟩;have hFb:=hF.same swo;obtain⟨fdx,ffs,lu,vsA,vsU,hf1,ff,hf2,pA,hf3,pU,hfne⟩:=id hFb;have pA':Paired (Pr c Hb) vsA an:=Paired.imp (fun _ _ r=>Pr.same r fD) pA;have pU':Paired (Pr c Hb) vsU au:=Paired.imp (fun _ _ r=>Pr.same r fD) pU;have okA:ET an:=⟨fun r hr=>by obtain⟨g1,g2⟩:=hnq r (Kz _ hr);exact⟨g1,hO.wf _ g2,hO.sm _ g2⟩⟩
 have okU:ET au:=⟨fun r hr=>by obtain⟨g1,g2⟩:=hnq r (KG _ hr);exact⟨g1,hO.wf _ g2,hO.sm _ g2⟩⟩
 have qpl:∀(m:List (List Nat)) (k:Nat),k+Sn12.size m<=16000->(∀z∈Sn12.questionPlaces m k,z.2<16384)/\(Sn12.questionPlaces m k).length=m.length:=by
  intro m;induction m with
  |nil=>intro k _;exact⟨fun z hz=>(nomatch hz),rfl⟩
  |cons lb m ih =>
   intro k hk;rw[NM.size_cons]at hk;obtain⟨i1,i2⟩:=ih (k+lb.length+1) (by lia);refine⟨fun z hz=>?_,by show(_::Sn12.questionPlaces m (k+lb.length+1)).length=_;rw[JS,i2,JS]⟩;rcases Kg.mp (show z∈(lb::m,k)::Sn12.questionPlaces m (k+lb.length+1) from hz) with rfl|hz
   .show k<16384;lia
   .exact i1 z hz
 obtain⟨qp1,qp2⟩:=qpl n 12 (by lia);have hnl:=fJ n;unfold Cf at q;dsimp only at q;rw[eL]at q;have hex:=wQ (o:=o) (xs:=xs) (c:=code) (w:=own) (an:=an) (au:=au) fun r hr=>hO.wf _ (hnq r hr).2;have hz12:(List.replicate 12 0++qb).length=12+qb.length:=by rw[JT,List.length_replicate]
 have ez:NM.zeros=List.replicate 12 0:=rfl;rw[ez]at q;have okE:=Eg (an:=an) (au:=au) hO.wf hO.sm hnq;generalize hEX:NM.more xs ((ip (an++au)).foldl aF [])=EX at hex okE;have hOb:=hO.same sHb;have hqS:∀{H9:Hp},ar Hb H9->aY K H9 a (nz bs):=fun s=>(sHb.trans s).seq hS;have tl:∀(H5:Hp) (p:Addr) (x5:Sn12.Out) (full:Bool) (k1 k2 B:Nat) (z:Int) (e:Sn12.Out×Nat×Bool),z=(B:Int)->Ms c Hb H5 ma x5 full->H5 p=none->x5.bytes.length<=512 ->
   ((full=true/\e=(x5,0,true))\/(full=false/\(∀z∈x5.places,z.2<16384)/\x5.places.length<=500000/\e=x5.records (EX.map ax) 0))->i6 H Q Fl (gE bs B code [1,k1,k2,e.2.1]++e.1.bytes.drop 12) ->
   AX K "list" (.ref p) (upd H5 p (.lst [V.int 1,iv k1,iv k2]))/\jg c.CM ("write_section":Str) (upd H5 p (.lst [V.int 1,iv k1,iv k2])) ma/\oh c [v,.ref fa] (upd H5 p (.lst [V.int 1,iv k1,iv k2])) (fun x H1=>lE c [.ref ma,x] H1 (fun x H1=>iB (.ref p) [x] H1 fun x H1=>dM K ("code":Str) H1 fa fun x H1 =>
    iw K [.ref a,.int z,x,.ref p] H1 (fun x H1=>dM K ("octets":Str) H1 ma fun x_3 H1=>qy K x_3 (some 12) none H1 fun y H2=>uh x y H2 Q) E) E) E:=by
  intro H5 p x5 full k1 k2 B z e hz hM5 hp5 hb5 hcase hq;subst hz;have s6:=aj (o:=.lst [V.int 1,iv k1,iv k2]) hp5;have h6p:(upd H5 p (.lst [V.int 1,iv k1,iv k2])) p=some (.lst (nz [1,k1,k2])):=af;generalize upd H5 p (.lst [V.int 1,iv k1,iv k2])=H6 at s6 h6p;have hM6:=hM5.same s6;refine⟨oX h6p,hM6.ins _ (by decide +kernel) (by decide +kernel) (by decide +kernel),?_⟩;refine⟨v,fa,la,code,own,an,au,o,xs,rfl,(hOb.zn.same hM6.below),hfew,hFb.same hM6.below,hal,hul,fun r hr=>hO.wf _ (hnq r hr).2,fun L H7 hL7 s7 hLs=>?_⟩;rw[hEX]at hLs;obtain⟨L',vsE,eL',hl7,pE⟩:=hLs;cases eL';have hL5:H5 L=none:=by
   cases hzz:H5 L with
   |none=>rfl
   |some ob=>have:=s6 _ _ hzz;rw[hL7]at this;cases this
  obtain⟨Hb',sbb,hM7,hnew,hprs⟩:=hM5.grow (s6.trans s7);have hbp:Hb' p=some (.lst (nz [1,k1,k2])):=hnew _ _ (s7 _ _ h6p) hp5;have hbL:Hb' L=some (.lst vsE):=hnew _ _ hl7 hL5;have pE':Paired (Pr c Hb') vsE EX:=Paired.imp (fun v q r=>hprs v q r) pE;have hlen:e.1.bytes.length<=512:=by
   rcases hcase with⟨_,rfl⟩|⟨_,_,_,rfl⟩
   .exact hb5
   .exact(cE _ _ 0 hb5).2.1
  have fin:∀(H8:Hp) (x8:Sn12.Out) (f8:Bool),Ms c Hb' H8 ma x8 f8->x8.bytes=e.1.bytes->iB (.ref p) [iv e.2.1] H8 fun x H1=>dM K ("code":Str) H1 fa fun x H1 =>
    iw K [.ref a,iv B,x,.ref p] H1 (fun x H1=>dM K ("octets":Str) H1 ma fun x_3 H1=>qy K x_3 (some 12) none H1 fun y H2=>uh x y H2 Q) E:=by
   intro H8 x8 f8 hM8 hx8;refine goApp (hM8.below _ _ hbp) (by rw[aD];exact(by decide:(3:Nat)<16777216)) ?_;have hM9:=hM8.put (o:=.lst (nz [1,k1,k2]++[iv e.2.1])) hbp;have h9p:(upd H8 p (.lst (nz [1,k1,k2]++[iv e.2.1]))) p=some (.lst (nz [1,k1,k2,e.2.1])):=af;generalize upd H8 p (.lst (nz [1,k1,k2]++[iv e.2.1]))=H9 at hM9 h9p;have hHp:H p=none:=by
    cases hzz:H p with
    |none=>rfl
    |some ob=>have:=hM5.below _ _ (sHb _ _ hzz);rw[hp5]at this;cases this
   have hHbp:Hb p=none:=by
    cases hzz:Hb p with
    |none=>rfl
    |some ob=>have:=hM5.below _ _ hzz;rw[hp5]at this;cases this
   have sb9:ar Hb H9:=(ik sbb hHbp).trans hM9.below;refine a0 (sb9 _ _ hf1) T.cR T.iX ff.code ?_;refine⟨a,p,bs,[1,k1,k2,e.2.1],B,code,rfl,hqS sb9,h12,h9p,(by exact(by decide:(4:Nat)<=4)),fun v10 H10 s10 f10=>?_⟩;obtain⟨b10,rfl,h10⟩:=f10;refine(hM9.same s10).oct T fun l10 hl10 _=>?_;refine rp (aY.of hl10) fun r hr=>?_;have ec:fK (nz x8.bytes) (some 12) none=nz (e.1.bytes.drop 12):=by rw[<-hx8];exact p6 x8.bytes 12
   rw[ec];have s11:=aj (o:=.lst (nz (e.1.bytes.drop 12))) hr;refine mH (s11 _ _ h10) af (by rw[aD,aD,J4];have:(gE bs B code [1,k1,k2,e.2.1]).length=12:=rfl;lia) fun t ht=>?_;refine hq _ _ (((sHb.trans sb9).trans s10).trans (s11.trans (aj ht))) ⟨t,rfl,by rw[af,eF]⟩
  rcases hcase with⟨rfl,rfl⟩|⟨rfl,g1,g2,rfl⟩
  .exact⟨Hb',ma,L,x5,true,vsE,EX,rfl,hM7,hbL,pE',okE,.inl ⟨rfl,fun H8 hM8=>fin H8 x5 true hM8 rfl⟩⟩
  .exact⟨Hb',ma,L,x5,false,vsE,EX,rfl,hM7,hbL,pE',okE,.inr ⟨rfl,g1,hb5,g2,fun H8 pl8 hM8 _=>fin H8 _ _ hM8 rfl⟩⟩
 have tl2:∀(H5:Hp) (x5:Sn12.Out) (full:Bool) (k1 k2:Nat) (e:Sn12.Out×Nat×Bool),Ms c Hb H5 ma x5 full->x5.bytes.length<=512 ->
   ((full=true/\e=(x5,0,true))\/(full=false/\(∀z∈x5.places,z.2<16384)/\x5.places.length<=500000/\e=x5.records (EX.map ax) 0))->i6 H Q Fl (gE bs ((if own then 4 else 0) ||| (if full then 2 else 0)) code [1,k1,k2,e.2.1]++e.1.bytes.drop 12) ->
   3<=sizeLine/\∀p,H5 p=none->dM K ("is_own":Str) (upd H5 p (.lst [V.int 1,iv k1,iv k2])) fa fun x H'=>uM x fun k=>if k=true then
     dM K ("is_full":Str) H' ma fun x H'=>uM x fun k=>if k=true then
      AX K "list" (.ref p) H'/\jg c.CM ("write_section":Str) H' ma/\oh c [v,.ref fa] H' (fun x H1=>lE c [.ref ma,x] H1 (fun x H1=>iB (.ref p) [x] H1 fun x H1=>dM K ("code":Str) H1 fa fun x H1=>iw K [.ref a,.int (Builtin.bitOr 4 2),x,.ref p] H1 (fun x H1=>dM K ("octets":Str) H1 ma fun x_3 H1=>qy K x_3 (some 12) none H1 fun y H2=>uh x y H2 Q) E) E) E
      else AX K "list" (.ref p) H'/\jg c.CM ("write_section":Str) H' ma/\oh c [v,.ref fa] H' (fun x H1=>lE c [.ref ma,x] H1 (fun x H1=>iB (.ref p) [x] H1 fun x H1=>dM K ("code":Str) H1 fa fun x H1=>iw K [.ref a,.int 4,x,.ref p] H1 (fun x H1=>dM K ("octets":Str) H1 ma fun x_3 H1=>qy K x_3 (some 12) none H1 fun y H2=>uh x y H2 Q) E) E) E
    else dM K ("is_full":Str) H' ma fun x H'=>uM x fun k=>if k=true then
      AX K "list" (.ref p) H'/\jg c.CM ("write_section":Str) H' ma/\oh c [v,.ref fa] H' (fun x H1=>lE c [.ref ma,x] H1 (fun x H1=>iB (.ref p) [x] H1 fun x H1=>dM K ("code":Str) H1 fa fun x H1=>iw K [.ref a,.int (Builtin.bitOr 0 2),x,.ref p] H1 (fun x H1=>dM K ("octets":Str) H1 ma fun x_3 H1=>qy K x_3 (some 12) none H1 fun y H2=>uh x y H2 Q) E) E) E
      else AX K "list" (.ref p) H'/\jg c.CM ("write_section":Str) H' ma/\oh c [v,.ref fa] H' (fun x H1=>lE c [.ref ma,x] H1 (fun x H1=>iB (.ref p) [x] H1 fun x H1=>dM K ("code":Str) H1 fa fun x H1=>iw K [.ref a,.int 0,x,.ref p] H1 (fun x H1=>dM K ("octets":Str) H1 ma fun x_3 H1=>qy K x_3 (some 12) none H1 fun y H2=>uh x y H2 Q) E) E) E:=by
  intro H5 x5 full k1 k2 e hM5 hb5 hcase hq;refine⟨az (by decide),fun p hp=>?_⟩;have s6:=aj (o:=.lst [V.int 1,iv k1,iv k2]) hp;refine a0 (s6 _ _ (hM5.below _ _ hf1)) T.cR T.gT ff.own (show if own=true then _ else _ from ?_);cases own with
  |true =>
   rw[JX rfl];refine(hM5.same s6).fullO T (show if full=true then _ else _ from ?_);cases full with
   |true=>rw[JX rfl];exact tl H5 p x5 true k1 k2 (4 ||| 2) _ e (bor 4 2) hM5 hp hb5 hcase hq
   |false=>rw[JU (by decide)];exact tl H5 p x5 false k1 k2 4 _ e rfl hM5 hp hb5 hcase hq
  |false =>
   rw[JU (by decide)];refine(hM5.same s6).fullO T (show if full=true then _ else _ from ?_);cases full with
   |true=>rw[JX rfl];exact tl H5 p x5 true k1 k2 (0 ||| 2) _ e (bor 0 2) hM5 hp hb5 hcase hq
   |false=>rw[JU (by decide)];exact tl H5 p x5 false k1 k2 0 _ e rfl hM5 hp hb5 hcase hq
 walk_at "rd";refine⟨hM4.ins _ (by decide +kernel) (by decide +kernel) (by decide +kernel),a0 (hM4.below _ _ hf1) T.cR T.d8 ff.ans ?_⟩;have hX0:(⟨List.replicate 12 0++qb,Sn12.questionPlaces n 12⟩:Sn12.Out).bytes.length<=512:=by show(List.replicate 12 0++qb).length<=512;lia
 refine⟨Hb,ma,la,_,false,vsA,an,rfl,hM4,hf2,pA',okA,.inr ⟨rfl,qp1,hX0,by show(Sn12.questionPlaces n 12).length<=_;lia,fun H5 pl5 hM5 hpl5=>?_⟩⟩;have hl5:=(cE (an.map ax) _ 0 hX0).2.1;have qpl2:(Sn12.questionPlaces n 12).length<=300:=by lia
 unfold qX at q;dsimp only at q;rw[hex]at q;dsimp only at hpl5;generalize (⟨List.replicate 12 0++qb,Sn12.questionPlaces n 12⟩:Sn12.Out).records (an.map ax) 0=x at q hM5 hpl5 hl5;obtain⟨x1,xk,xa⟩:=x;dsimp only at q hM5 hpl5 hl5;refine⟨hM5.ins _ (by decide +kernel) (by decide +kernel) (by decide +kernel),a0 (hM5.below _ _ hf1) T.cR T.eE ff.aut ?_⟩;cases xa with
 |false =>
  refine⟨Hb,ma,lu,_,true,vsU,au,rfl,hM5,hf3,pU',okU,.inl ⟨rfl,fun H6 hM6=>?_⟩⟩;exact tl2 H6 _ true xk 0 (⟨x1.bytes,pl5⟩,0,true) hM6 hl5 (.inl ⟨rfl,rfl⟩) q
 |true =>
  obtain⟨rfl,g1,g2⟩:=hpl5 rfl;refine⟨Hb,ma,lu,_,false,vsU,au,rfl,hM5,hf3,pU',okU,.inr ⟨rfl,g1,hl5,by show x1.places.length<=_;lia,fun H6 pl6 hM6 hpl6=>?_⟩⟩;have hl6:=(cE (au.map ax) x1 0 hl5).2.1;have q:i6 H Q Fl (gE bs ((if own then 4 else 0) ||| (if !(true&&(x1.records (au.map ax) 0).2.2) then 2 else 0)) code [1,xk,(x1.records (au.map ax) 0).2.1,(if (x1.records (au.map ax) 0).2.2=true then(x1.records (au.map ax) 0).1.records (EX.map ax) 0 else((x1.records (au.map ax) 0).1,0,true)).2.1]++(if (x1.records (au.map ax) 0).2.2=true then(x1.records (au.map ax) 0).1.records (EX.map ax) 0 else((x1.records (au.map ax) 0).1,0,true)).1.bytes.drop 12):=q;have hM6:Ms c Hb H6 ma ⟨(x1.records (au.map ax) 0).1.bytes,pl6⟩ (!(x1.records (au.map ax) 0).2.2):=hM6;have hpl6:(x1.records (au.map ax) 0).2.2=true->pl6=(x1.records (au.map ax) 0).1.places/\(∀q∈pl6,q.2<16384)/\pl6.length<=x1.places.length+150000:=hpl6;show _/\_;have goal:∀(y:Sn12.Out×Nat×Bool),y=x1.records (au.map ax) 0->(iv (x1.records (au.map ax) 0).2.1)=iv y.2.1:=fun y h=>by rw[h]
  generalize x1.records (au.map ax) 0=y at q hM6 hpl6 hl6 goal;obtain⟨y1,yk,ya⟩:=y;dsimp only at q hM6 hpl6 hl6;cases ya with
  |false=>exact tl2 H6 _ true xk yk (⟨y1.bytes,pl6⟩,0,true) hM6 hl6 (.inl ⟨rfl,rfl⟩) q
  |true =>
   obtain⟨rfl,g3,g4⟩:=hpl6 rfl;exact tl2 H6 _ false xk yk (y1.records (EX.map ax) 0) hM6 hl6 (.inr ⟨rfl,g3,by show y1.places.length<=_;lia,rfl⟩) q
end
section
inductive Bu (K:Lq) (c:As) (vs:List V) (H:Hp) (Q:VK) (E:XK):Prop
 |mk (v:V) (a:Addr) (bs:List Nat) (o:List (List Nat)) (xs:List NM.PR) (_:vs=[v,.ref a]) (_:oU c H v o xs) (_:aY K H a (nz bs)) (_:bs.length<=65536) (_:(∀x∈bs,x<=255)) (_:i6 H Q Fl (Sn12.answer (NM.zn o xs) bs))
theorem B8(T:Top K mg base c):gz P w K mg base "reply" 9 ["zone","query"] (Bu K c):=by
 have g:=T.g;refine T.ED.cl ["zone","query","question"] ?_;rintro nd _ _ _ _ _ H _ Q E hr ⟨v,a,bs,o,xs,rfl,hO,hS,hbl,hby,q⟩;refine⟨_,(ae (aR (PW.pt (o5 (tR kD (gL T (pv 1)) (aQ g.fM)) (kx (tR gM (aP yj (xL cH (pv 1) ak) (aQ g.tI)) ak)))) (ah (ay (bN ag))) aB)
  (ae (sS 2 nd (pF (lS T) hr aq (aa (pv 1) ag)))
  (ae (aR (ie (um (pv 2))) (ah (ay (pF (lJ T) hr aq (aa (pv 1) (aa ak (aa (aQ g.Dt) (aa (bN (aa ak (aa ak (aa ak (aa ak ag))))) ag))))))) aB)
  (ae (aR (tR gM (aP yj (xL cH (pv 1) ak) (aQ g.pC)) ak) (ah (ay (aP kE (pF (lJ T) hr aq (aa (pv 1) (aa ak (aa (aQ g.Dk) (aa (bN (aa ak (aa ak (aa ak (aa ak ag))))) ag))))) (pD T (pv 2))))) aB)
  (ae (aR (tR gM (pD T (pv 2)) (aQ g.xy)) (ah (ay (aP kE (pF (lJ T) hr aq (aa (pv 1) (aa ak (aa (aQ g.zW) (aa (bN (aa ak (aa ak (aa ak (aa ak ag))))) ag))))) (pD T (pv 2))))) aB)
  (ah (ay (pF (my T) hr aq (aa (pv 0) (aa (pv 1) (aa (pv 2) ag))))))))))),?_⟩
 rw[vP hby]at q;walk_at "rd";refine cD hS ?_;walk_at "rd";rw[aD];have none_:(bs.length<12\/(bs.getD 2 0 &&& 128)≠0)->0<=sizeLine/\∀p,H p=none->Q (.ref p) (upd H p (.lst [])):=fun hz=>by
  refine⟨az (by decide),fun p hp=>?_⟩;have:=q (.ref p) _ (aj (o:=.lst []) hp);rcases hz with z|z
  .rw[JX z]at this;exact this ⟨p,rfl,af⟩
  .by_cases y:bs.length<12
   .rw[JX y]at this;exact this ⟨p,rfl,af⟩
   .rw[JU y,JX z]at this;exact this ⟨p,rfl,af⟩
 refine aS (fun hlt=>none_ (.inl (by lia))) fun hlt=>?_;refine dP hS (at_getD (i:=2) (by lia) rfl) ?_;walk_at "rd";have e128:Builtin.bitAnd ((bs.getD 2 0:Nat):Int) 128=((bs.getD 2 0 &&& 128:Nat):Int):=band _ 128;rw[e128];refine aS (fun hne=>none_ (.inr fun z=>hne (by rw[z];rfl))) fun heq=>?_;have h128:¬(bs.getD 2 0 &&& 128)≠0:=fun z=>heq fun y=>z (by lia);rw[JU (by lia),JU h128]at q;refine⟨a,bs,rfl,hS,by lia,hbl,fun v1 H1 s1 r1=>?_⟩;have head4:∀(H2:Hp) (code k:Nat) (Q2:VK),ar H H2->(∀v3 H3,ar H2 H3->Fl H3 v3 (gE bs 0 code [k,0,0,0])->Q2 v3 H3)->4<=sizeLine/\∀p,H2 p=none->iw K [.ref a,V.int 0,iv code,.ref p] (upd H2 p (.lst [iv k,V.int 0,V.int 0,V.int 0])) Q2 E:=fun H2 code k Q2 s2 hq=>by
  refine⟨az (by decide),fun p hp=>?_⟩;have s3:=aj (o:=.lst [iv k,V.int 0,V.int 0,V.int 0]) hp;exact⟨a,p,bs,[k,0,0,0],0,code,rfl,(s2.trans s3).seq hS,by lia,af,(by exact(by decide:(4:Nat)<=4)),fun v3 H3 s4 f=>hq v3 H3 (s3.trans s4) f⟩
 cases hqq:NM.question bs with
 |none =>
  rw[hqq]at r1 q;obtain rfl:v1 = .non:=r1;walk_at "rd";exact head4 H1 1 0 _ s1 fun v3 H3 s3 f3=>q _ _ (s1.trans s3) f3
 |some nq =>
  obtain⟨n,qb⟩:=nq;rw[hqq]at r1 q;have r1:Qn c H1 v1 n qb:=r1;obtain⟨qa,qdx,qfs,vn,ql,rfl,hq1,hq2,hq3,hq4,hq5,hq6,hq7⟩:=id r1;obtain⟨hsz,hql,_⟩:=jS hqq;dsimp only at q;walk_at "rd";change ite (decide (V.ref qa=V.non)=true) _ _;rw[JU (by simp)];have cat:∀(code:Nat),i6 H Q Fl (gE bs 0 code [1,0,0,0]++qb)->4<=sizeLine/\∀p,H1 p=none->iw K [.ref a,V.int 0,iv code,.ref p] (upd H1 p (.lst [iv 1,V.int 0,V.int 0,V.int 0])) (fun x H2=>dM K ("octets":Str) H2 qa fun y H3=>uh x y H3 Q) E:=fun code hq=>by
   refine head4 H1 code 1 _ s1 fun v3 H3 s3 f3=>?_;obtain⟨b3,rfl,h3⟩:=f3;refine a0 (s3 _ _ hq1) T.eA T.gx hq4 (mH h3 (s3 _ _ hq5) (by rw[aD,aD];have:(gE bs 0 code [1,0,0,0]).length=12:=rfl;lia) fun p hp=>?_);have s4:=aj (o:=.lst (nz (gE bs 0 code [1,0,0,0])++nz qb)) hp;exact hq _ _ ((s1.trans s3).trans s4) ⟨p,rfl,by rw[af,eF]⟩
  refine dP (s1.seq hS) (at_getD (i:=2) (by lia) rfl) ?_;walk_at "rd";have e120:Builtin.bitAnd ((bs.getD 2 0:Nat):Int) 120=((bs.getD 2 0 &&& 120:Nat):Int):=band _ 120;rw[e120];refine aS (fun hne=>?_) fun heq=>?_
  .rw[JX (fun z=>hne (by rw[z];rfl))]at q;exact cat 4 q
  .rw[JU (fun z=>heq fun y=>z (by lia))]at q;refine a0 hq1 T.eA T.jK hq7 ?_;walk_at "rd";refine aS (fun hne=>?_) fun heq2=>?_
   .rw[JX (fun z=>hne (by rw[z];rfl))]at q;exact cat 5 q
   .rw[JU (fun z=>heq2 fun y=>z (by lia))]at q;exact⟨v,.ref qa,a,bs,qb,n,o,xs,rfl,hO.same s1,s1.seq hS,by lia,r1,hsz,by lia,fun v5 H5 s5 f5=>q _ _ (s1.trans s5) f5⟩
end
theorem CY{A:Around}(hr:fj k A):A.depth+2<recursionLimit:=by have:=hr.dp;lia
structure yK (K:Lq) (mg:Str->Option Value) (base:Heap) (c:As):Prop where
 t:Top K mg base c
 xl:tG K mg "LineFault" c.CL (inClass (top 2) 0)
 ne:c.CL≠c.CS
theorem yK.ini(t:yK K mg base c):∃f,gV base c.CL f:=by
 obtain⟨f,fd,qual,p1,p2,p3,p4,hx,_⟩:=t.xl.ex;exact⟨f,hx _ t.t.hk⟩
section
noncomputable def rN(c:As)(H:Hp)(E:XK)(n:Nat):Prop:=∀H' d,ar H H'->H' d=some (.xd [("line",iv n)])->E (.ref c.CL) (some d) H'
theorem rN.new{E:XK}{n:Nat}(h:rN c H E n)(s:ar H H1)(hd:H1 d=none):E (.ref c.CL) (some d) (upd H1 d (.xd [("line",iv n)])):=h _ _ (s.trans (aj hd)) af
inductive Ad (c:As) (vs:List V) (H:Hp) (Q:VK) (E:XK):Prop
 |mk (a:Addr) (ws:List V) (ls:List (List Nat)) (_:vs=[.ref a]) (_:H a=some (.lst ws)) (_:Paired (Fl H) ws ls) (_:(∀b∈ls,b.length<=65536)) (_:(ls.findIdx? NM.badLine=none->∀H',ar H H'->Q .non H')) (_:∀i,ls.findIdx? NM.badLine=some i->rN c H E (i+1))
inductive Jd (H:Hp) (a:Addr) (ls:List (List Nat)) (i:Nat) (σ:St) (H':Hp):Prop
 |mk  (_:(∃x y,σ=[some (.ref a),x,y])) (_:ar H H') (_:∀j e,j<i->ls[j]?=some e->NM.badLine e=false)
theorem qM(TL:yK K mg base c):gz P w K mg base "check_lines" 2 ["lines"] (Ad c):=by
 have T:=TL.t;obtain⟨f0,hini⟩:=TL.ini;have g:=T.g;refine T.sF.cl ["lines","number","line"] ?_;rintro nd _ _ _ _ _ H _ Q E hr ⟨a,ws,ls,rfl,ha,hp,hlen,q,q2⟩;refine⟨_,(ah (d3 aA rfl (BQ rfl g.enumerate (aa (pv 0) ag)) (BR rfl (mW (gN 1 nd) (mW (gN 2 nd) zo))) (ah (aR (jV (jU (pF (Ar T) hr aq (aa (pv 2) ag)))) (ah (Ag TL.xl (CY hr) rfl aq rfl (pv 1))) aB)))),?_⟩;have hpl:=Paired.length hp;walk_at "rd";refine⟨ws,aY.of ha,?_⟩;refine E6 (xr.l (aY.of ha)) (Jd H a ls) ⟨⟨_,_,rfl⟩,ar.refl _,fun j e z=>absurd z (Nat.not_lt_zero _)⟩ (fun i σ H' ⟨_,s,_⟩=>s) ?_ ?_
 .rintro i x σ H1 T hx ⟨⟨u1,u2,rfl⟩,s1,hj⟩ hT;obtain⟨bs,hbs,b,rfl,hb⟩:=Paired.get hp hx;have s2:=s1.trans (aj (o:=.tup [.int ((i+1:Nat):Int),.ref b]) hT);refine zB af ?_;walk_at "rd";refine⟨b,bs,rfl,aY.of (s2 _ _ hb),hlen bs (Kr hbs),fun H2 s3=>?_⟩;walk_at "rd";cases hbad:NM.badLine bs with
  |true =>
   walk_at "rd";refine fun d hd=>(q2 i ?_).new (s2.trans s3) hd;have hi:=(JW.mp hbs).1;refine List.findIdx?_eq_some_iff_getElem.mpr ⟨hi,by rw[(JW.mp hbs).2];exact hbad,fun j hji=>?_⟩;rw[hj j _ hji (Ks (by lia))];simp
  |false =>
   walk_at "rd";refine⟨⟨_,_,rfl⟩,s2.trans s3,fun j e hji he=>?_⟩;by_cases hlt:j<i
   .exact hj j e hlt he
   .have:j=i:=by lia
    subst this;rw[hbs]at he;cases he;exact hbad
 .rintro σ H1 ⟨_,s1,hj⟩;refine q (List.findIdx?_eq_none_iff.mpr fun x hx=>?_) _ s1;obtain⟨j,hjl,rfl⟩:=List.getElem_of_mem hx;exact hj j _ (by lia) (Ks hjl)
end
section
theorem rN.from{E:XK}{n:Nat}(h:rN c H E n)(s:ar H H1):rN c H1 E n:=fun H' d s' hd=>h H' d (s.trans s') hd
inductive Bq (K:Lq) (c:As) (vs:List V) (H:Hp) (Q:VK) (E:XK):Prop
 |mk (a:Addr) (bs:List Nat) (_:vs=[.ref a]) (_:aY K H a (nz bs)) (_:bs.length<=65536) (_:Mh K c H) (_:(∀(o:List (List Nat)) (xs:List NM.PR) (v u:V) (l:Addr) (ws:List V) (H':Hp),fk bs = .ok (o,xs)->ar H H'->Tp H' v [u,.ref l]->Nm H' u o->H' l=some (.lst ws)->Paired (Rec c H') ws xs->Q v H')) (_:∀k,fk bs = .error k->rN c H E k)
inductive Jc (c:As) (a l:Addr) (vs':List V) (r:List Sn12.Bytes) (o:List (List Nat)) (vo:V) (H3:Hp) (p sl:Addr) (i:Nat) (σ:St) (H':Hp):Prop
 |mk  (_:(∃x,σ=[some (.ref a),some (.ref l),some (iv (i+1)),some vo,some (.ref p),x])) (_:ar H3 H') (_:H' sl=some (.lst vs')) (_:∃ws xs,H' p=some (.lst ws)/\Paired (Rec c H') ws xs/\xs.length<=i/\aI o 2 r=match aI o (i+2) (r.drop i) with | .error e=>.error e | .ok ys=>.ok (xs++ys))
theorem uv(TL:yK K mg base c):gz P w K mg base "read_zone" 10 ["text"] (Bq K c):=by
 have T:=TL.t;obtain⟨f0,hini⟩:=TL.ini;have g:=T.g;have hk:=T.hk;refine T.wX.cl ["text","lines","number","origin","records","line"] ?_;rintro nd _ _ _ _ _ H _ Q E hr ⟨a,bs,rfl,hS,hl,hM,q,q2⟩;refine⟨_,(ae (sS 1 nd (pF (i9 T) hr aq (aa (pv 0) (aa (aQ g.EW) ag))))
  (ae (aM (pF (qM TL) hr aq (aa (pv 1) ag)))
  (ae (sS 2 nd ak)
  (ae (D4 rfl rfl (fun _=>rfl) aq rfl T.aT.bound (T.aT.obj _ hk) (fun E1 p0=>(ae (sS 3 nd (pF (m8 T) hr vd (aa (xL cH (pv 1) ak) ag)))
  (ae (sS 4 nd (bN ag))
  (ah (d3 (Al rfl rfl) rfl (cG (bF f9 (pv 1) (bD ak) dO)) (gN 5 nd) (ae (sA 2 nd ak rg)
  (ah (aM (fo Ka Ko Km jB (pv 4) (aa (pF (mw T) hr vd (aa (pv 5) (aa (pv 3) ag))) ag)))))))))) (fun ea oe xe hX hd hA=>(ah (yb hX hd TL.xl (CY hr) hr.hd hA rfl (pv 2)))))
  (ah (ay (bM (aa (pv 3) (aa (pv 4) ag))))))))),?_⟩
 unfold fk at q q2;walk_at "rd";refine⟨a,bs,10,rfl,hl,.inl ⟨hS,fun v1 H1 s1 b1=>?_⟩⟩;obtain⟨l,vs,rfl,hl1,hp⟩:=b1;walk_at "rd";refine⟨l,vs,_,rfl,hl1,hp,fun b hb=>KH (EF hb) hl,fun hno H2 s2=>?_,fun i hi=>?_⟩
 rotate_left
 .rw[hi]at q2;exact(q2 _ rfl).from s1
 rw[hno]at q q2;have nb:=List.findIdx?_eq_none_iff.mp hno;have hne:NM.cutAt 10 bs []≠[]:=C4 10 bs [];have cnt:=AU 10 bs;generalize NM.cutAt 10 bs []=ls at hp q q2 hne nb cnt;have s12:=s1.trans s2;have hl2:=s2 _ _ hl1;cases hp with
 |nil=>exact absurd rfl hne
 |@cons v0 first vs' r hv0 hp' =>
  dsimp only at q q2;obtain⟨b0,rfl,hb0⟩:=hv0;walk_at "rd";intro p0;walk_at "rd";refine dP (aY.of hl2) (v:=.ref b0) (bG (j:=0) rfl) ?_;refine⟨b0,first,rfl,aY.of (s2 _ _ hb0),uC (nb _ (J8 ..)),hM.st.same s12,fun o vo H3 ho s3 ro=>?_,fun hn H3 s3=>⟨rfl,rfl,fun ea oe xe=>?_⟩⟩
  rotate_left
  .rw[hn]at q2;walk_at "rd";exact fun d hd=>(q2 1 rfl).new (s12.trans s3) hd
  rw[ho]at q q2;dsimp only at q q2;have hno:=(kC ho).2.2;have hol:o.length<=1000:=by have:=fJ o;have:=hno.sz;lia
  have s13:=s12.trans s3;walk_at "rd";refine⟨az (by decide),fun p hp=>?_⟩;walk_at "rd";have hlp:l≠p:=aH (s3 _ _ hl2) hp;refine rp (aY.of (by rw[ai hlp];exact s3 _ _ hl2)) fun sl hsl=>?_;have hslp:sl≠p:=fun z=>by subst z;rw[af]at hsl;cases hsl
  walk_at "rd";have ecut:fK (V.ref b0::vs') (some 1) none=vs':=fq (V.ref b0::vs') 1;rw[ecut];refine⟨⟨_,aY.of af⟩,?_⟩;have hpl:=Paired.length hp';rw[JS]at cnt;refine yT (xs:=vs') (Jc c a l vs' r o vo H3 p sl) ?_ (fun i σ H' _ ⟨_,_,h,_⟩=>aY.of h) ?_ ?_
  .refine⟨⟨_,rfl⟩,(aj hp).trans (aj hsl),af,[],[],?_,.nil,JY _,?_⟩
   .rw[ai (Ne.symm hslp),af]
   .rw[List.drop_zero];cases aI o 2 r<;>rfl
  .rintro i x σ H4 hx ⟨⟨u,rfl⟩,s4,hsl4,ws,xs,hp4,hw4,hxl,heq⟩;obtain⟨b,hb,bb,rfl,hbb⟩:=Paired.get hp' hx;have hi:=(JW.mp hb).1;have ed:r.drop i=b::r.drop (i+1):=by rw[K8 hi,(JW.mp hb).2]
   rw[ed,qv]at heq;have s24:=s3.trans s4;walk_at "rd";refine⟨oX hp4,?_⟩;refine⟨bb,b,vo,o,rfl,aY.of ((s2.trans s24) _ _ hbb),uC (nb _ (J0 _ (Kr hb))),ro.same s4,hol,hM.same (s13.trans s4),fun ys v5 H5 hy s5 r5=>?_,fun hn H5 s5=>⟨rfl,rfl,fun ea oe xe=>?_⟩⟩
   .have hy:NM.lineRecs o b=some ys:=hy;obtain⟨l5,vs5,rfl,h5,hp5⟩:=r5;have hpw:=Paired.length hw4;have hp5l:=Paired.length hp5;have hyl:=uE hy;have h5p:=s5 _ _ hp4;refine wI h5p h5 (by lia) ?_;have lk:Lk H5 (upd H5 p (.lst (ws++vs5))):=jZ h5p;refine⟨⟨_,rfl⟩,a8 (s4.trans s5) hp,by rw[ai hslp];exact s5 _ _ hsl4,ws++vs5,xs++ys,af,Paired.app (Paired.imp (fun _ _ r=>Rec.lk r ((iy s5).trans lk)) hw4) (Paired.imp (fun _ _ r=>Rec.lk r lk) hp5),by rw[JT];lia,?_⟩;rw[heq,hy];dsimp only;rw[show i+2+1=i+1+2 by lia];cases aI o (i+1+2) (r.drop (i+1)) with
    |error e=>rfl
    |ok zs=>dsimp only;rw[Kx]
   .have hn:NM.lineRecs o b=none:=hn;rw[hn]at heq;rw[heq]at q2;walk_at "rd";exact fun d hd=>(q2 _ rfl).new (s13.trans (s4.trans s5)) hd
  .rintro σ H4 ⟨⟨u,rfl⟩,s4,_,ws,xs,hp4,hw4,_,heq⟩;rw[List.drop_of_length_le (by lia)]at heq;have heq:aI o 2 r = .ok (xs++[]):=heq;rw[Kw]at heq;rw[heq]at q;walk_at "rd";refine⟨az (by decide),fun t ht=>?_⟩;have s5:=aj (o:=.tup [vo,.ref p]) ht;exact q o xs _ vo p ws _ rfl (s13.trans (s4.trans s5)) Tp.new (ro.same (s4.trans s5)) (s5 _ _ hp4) (Paired.imp (fun _ _ r=>r.same s5) hw4)
inductive sU (K:Lq) (c:As) (vs:List V) (H:Hp) (Q:VK) (E:XK):Prop
 |mk (a b:Addr) (z y:List Nat) (_:vs=[.ref a,.ref b]) (_:aY K H a (nz z)) (_:aY K H b (nz y)) (_:z.length<=65536) (_:y.length<=65535) (_:(∀x∈y,x<=255)) (_:Mh K c H) (_:∀r H',ar H H'->H' r=some (.lst ((AZ z y).map V.int))->Q (.ref r) H')
theorem Au(TL:yK K mg base c):gz P w K mg base "answer" 11 ["zone","query"] (sU K c):=by
 have T:=TL.t;obtain⟨f0,hini⟩:=TL.ini;have g:=T.g;have hk:=T.hk;refine T.C3.cl ["zone","query","fault","octets","parts","served"] ?_;rintro nd _ _ _ _ _ H _ Q E hr ⟨a,b,z,y,rfl,hS,hS2,hzl,hyl,hyb,hM,q⟩;refine⟨_,(ae (aR (PW.pt (o5 (tR iP (gL T (pv 0)) (aQ g.vm)) (kx (tR iP (gL T (pv 1)) (aQ g.sJ))))) (ah (ay (bN (aa (mX jO ak) ag)))) aB)
  (ae (D3 (i:=2) rfl rfl (fun _=>rfl) aq nd rfl rfl TL.ne rfl TL.xl.bound hini.obj rfl T.gd.bound (T.gd.obj _ hk) (fun E1 p0=>(ae (sS 4 nd (pF (uv TL) hr vd (aa (pv 0) ag)))
  (ah (sS 5 nd (pF (B7 T) hr vd (aa (xL dG (pv 4) ak) (aa (xL dG (pv 4) ak) ag))))))) (fun ea d oe xe hX hd=>(ah (ay (bN (aa (aP gj (mX jO ak) (Ea hX hd hini (pv 2))) ag))))) (fun ea oe xe hX hA=>(ah (ay (bN (aa (mX jO ak) ag))))))
  (ae (sS 3 nd (pF (B8 T) hr aq (aa (pv 5) (aa (pv 1) ag))))
  (ah (ay (aP kE (bN (aa (gL T (pv 3)) ag)) (pv 3))))))),?_⟩
 walk_at "rd";refine cD hS ?_;walk_at "rd";rw[aD];refine aS (fun h=>absurd h (by lia)) fun _=>?_;refine cD hS2 ?_;walk_at "rd";rw[aD];refine aS (fun h=>absurd h (by lia)) fun _=>?_;walk_at "rd";intro p0;walk_at "rd";refine⟨a,z,rfl,hS,hzl,hM,fun o xs v u l ws H1 hz s1 ht hu hl hw=>?_,fun k hk=>fun H1 d s1 hd=>.inl ⟨rfl,d,rfl,fun ea oe xe=>?_⟩⟩
 rotate_left
 .walk_at "rd";refine⟨_,(k:Int),hd,rfl,az (by decide),fun p hp=>?_⟩;refine q p _ (s1.trans (aj hp)) ?_;rw[af,EB hk];rfl
 obtain⟨ta,rfl,htr⟩:=ht;have got:=mT hzl hz;have once:=got.once;walk_at "rd";refine cT (K:=K) (.inl htr) (v:=u) (bG (j:=0) rfl) ?_;refine cT (K:=K) (.inl htr) (v:=.ref l) (bG (j:=1) rfl) ?_;refine⟨u,l,ws,o,xs,rfl,hu,hl,hw,fun x hx=>⟨got.un x hx,?_⟩,got.few,fun sv v2 H2 s2 hzn=>?_,fun nsv H2 s2=>.inr ⟨rfl,fun ea oe xe=>?_⟩⟩
 .have:=fJ x.name;have:=(got.sm x hx).nm;lia
 .walk_at "rd";have s12:=s1.trans s2;refine⟨v2,b,y,o,_,rfl,⟨hzn,by have:=once.few;lia,once.sz,sv,once.wf,once.sm,hM.st.same s12,hM.kn.same s12⟩,s12.seq hS2,by lia,hyb,fun v3 H3 s3 f3=>?_⟩;obtain⟨b3,rfl,h3⟩:=f3;have hal:=yH (o:=o) (xs:=xs.foldl aF []) hyb;walk_at "rd";refine cD (aY.of h3) ⟨az (by decide),fun p hp=>?_⟩;walk_at "rd";refine mH af (by rw[ai (aH h3 hp)];exact h3) (by rw[aD];simp only[JS,J7];lia) fun r hr'=>?_;refine q r _ (s12.trans (s3.trans ((aj hp).trans (aj hr')))) ?_;rw[af,GK hz sv,J5,KY,aD];rfl
 .walk_at "rd";refine⟨az (by decide),fun p hp=>?_⟩;refine q p _ ((s1.trans s2).trans (aj hp)) ?_;rw[af,GL hz nsv];rfl
end
end NS
namespace NS
open PySem PySem.Spec L2
open PyProof.Rows hiding St
open PySem.W (WData Codec OpenSpec Well WellAll ReadsW ReadsAllW)
open NM
variable{P:Program}{w:World}{K:Lq}{mg:Str->Option Value}{base h:Heap}{x qual:Str}{N ps sn:List Str}{k:Nat}{sp:Sp}{X:Cx}{E:XS}{p C f a b d dx:Addr}{pos:Pos}{e:Expr}{es:Array DictEntry}{i j:Int}{tb:XS->List (Addr×Obj)->TS}{D:Ends}{σ:St}{H H' H0 H1 H2 Hb:Hp}{tt:TT}{te ta tl tv td ty:TE}{vs:List Nat}{Q:VK}{v y:V}{u:TS}{c:As}{dvs xs ys:List V}{R:It->Hp->Prop}{A B:Prop}{o n m:List (List Nat)}{lo hi:Option Int}{q:NM.Pair}{sc:Scope}{cd oc doc pm cdv ct:Value}{s:Shared}{J:It}{Bad:Hp->Prop}{pl:Sem Bool}{kvs:List (KD×V)}{xe:Value->Shared->Prop}{an au:List NM.Pair}{full:Bool}{rs:List Sn12.Record}{od dd:Option Addr}{sl osl:Array (Option Value)}{sub:List Value}{col:Option Bool}{k0 k5:Option Value}{L:List (Addr×Obj×HO)}{zi:List Int}
noncomputable def tY(e:DictEntry):Bool:=match e.key with
 |.str _ _=>true
 |_=>false
theorem lL{N:Addr}{n:Nat}{v:Option Value}(l:K.lookup N=some ⟨oc,od,.dict es n,sl⟩)(i:PySem.W.nsIn K N x=some v):nsFind es x=v:=by
 unfold PySem.W.nsIn at i;rw[l]at i;dsimp only at i;unfold nsFind findBy;rw[<-Array.find?_toList];cases hf:es.toList.find? (fun e=>e.key.isStr x) with
 |some e=>rw[hf]at i;cases i;rfl
 |none =>
  rw[hf]at i;dsimp only at i;split at i
  .cases i
  .cases i;rfl
theorem Fx{N:Addr}{n:Nat}(l:K.lookup N=some ⟨oc,od,.dict es n,sl⟩)(sk:es.toList.all tY=true)(X:K.In h):h.Ns N (nsFind es):=by
 refine⟨_,es,n,X _ _ l,rfl,fun e he=>?_,fun _=>rfl⟩;have:=Ln.mp sk e (Array.mem_toList_iff.mpr he);unfold tY at this;cases hk:e.key with
 |str x t=>exact⟨x,t,rfl⟩
 |_=>rw[hk]at this;cases this
theorem CK{h0:Heap}{N:Addr}{nm q:Str}{bs:List Value}{hdct ab:Bool}{k1 k2 k3:Option Value}{n:Nat}(X:K.In h0)(G:h0.Ns mainGlobals mg)(b:PySem.W.nsIn K mainGlobals x=some (some (.ref C)))(l:K.lookup C=some (excClassObj nm q C N bs A0 hdct sn sub ab col dd k0 k1 k2 k3 k5 "Exception.__new__"))(l2:K.lookup N=some ⟨oc,od,.dict es n,sl⟩)(sk:es.toList.all tY=true)(i:PySem.W.nsIn K N "__init__"=some none):Hf K mg x C :=
 ⟨PySem.W.mg_of X G b,fun h X=>⟨N,nm,q,bs,hdct,sn,sub,ab,col,dd,k0,k1,k2,k3,k5,_,X _ _ l,Fx l2 sk X,lL l2 i⟩⟩
theorem aJ{st:Stmt}{an:Option Addr}{kV:Value}(X:K.In h)(G:h.Ns mainGlobals mg)(a:PySem.W.nsIn K mainGlobals x=some (some (.ref f)))(l:K.lookup f=some ⟨oc,od,.func (PySem.W.fnOf x x (gc st) (cI st) (aE st) .none kV doc pm an cdv ct),osl⟩)(c:PySem.W.codeIn K cdv x=true)(k:PySem.W.keepIn K (.ref f)=true)(b:∀(kV doc pm:Value) (an:Option Addr) (cdv ct:Value) (us:List Value),us.length=ps.length->bindArgs (PySem.W.fnOf x x (gc st) (cI st) (aE st) .none kV doc pm an cdv ct) ⟨us,[]⟩=pure (ps.zip us)):Def K mg x st ps :=
 ⟨f,_,kZ l c k,PySem.W.mg_of X G a,(kZ (st:=st) l c k).binds b⟩
theorem gQ{st:Stmt}{an:Option Addr}{kV:Value}(X:K.In h)(a:PySem.W.findIn K (.ref C) x=some (some (.ref f)))(i:PySem.W.isFn K (.ref f)=true)(l:K.lookup f=some ⟨oc,od,.func (PySem.W.fnOf x qual (gc st) (cI st) (aE st) .none kV doc pm an cdv ct),osl⟩)(c:PySem.W.codeIn K cdv qual=true)(k:PySem.W.keepIn K (.ref f)=true)(b:∀(kV doc pm:Value) (an:Option Addr) (cdv ct:Value) (us:List Value),us.length=ps.length->bindArgs (PySem.W.fnOf x qual (gc st) (cI st) (aE st) .none kV doc pm an cdv ct) ⟨us,[]⟩=pure (ps.zip us)):mL K C x qual st ps :=
 ⟨f,_,kZ l c k,⟨a,i,k⟩,(kZ (st:=st) l c k).binds b⟩
theorem rj{st:Stmt}{an:Option Addr}{kV:Value}(X:K.In h)(m:PySem.W.makesIn K C=true)(a:PySem.W.findIn K (.ref C) "__init__"=some (some (.ref f)))(i:PySem.W.isFn K (.ref f)=true)(kc:PySem.W.keepIn K (.ref C)=true)(l:K.lookup f=some ⟨oc,od,.func (PySem.W.fnOf "__init__" qual (gc st) (cI st) (aE st) .none kV doc pm an cdv ct),osl⟩)(c:PySem.W.codeIn K cdv qual=true)(k:PySem.W.keepIn K (.ref f)=true)(b:∀(kV doc pm:Value) (an:Option Addr) (cdv ct:Value) (us:List Value),us.length=ps.length->bindArgs (PySem.W.fnOf "__init__" qual (gc st) (cI st) (aE st) .none kV doc pm an cdv ct) ⟨us,[]⟩=pure (ps.zip us)):yO K C qual st ps :=
 ⟨f,_,kZ l c k,⟨m,a,i,kc⟩,(kZ (st:=st) l c k).binds b⟩
theorem fY{f:Str}(X:K.In h)(e:PySem.W.findIn K (.ref C) f=some none):aO K C f:=e
theorem rK(X:K.In h)(pg:PySem.W.plainGet K C Str.empty=true)(hd:PySem.W.hasDictIn K C=true)(po:PySem.W.plainOver K C=true)(sa:PySem.W.findIn K (.ref C) "__setattr__"=some (some (.builtin "object.__setattr__"))):p7 K C:=⟨pg,hd,po,sa⟩
theorem A1{h0:Heap}{N:Addr}{nm q:Str}{bs:List Value}{ab:Bool}{k1 k2 k3:Option Value}{oc':Value}{od' an:Option Addr}{n:Nat}{st:Stmt}{kV:Value}{p1 p2 p3 p4:Pos}(X:K.In h0)(G:h0.Ns mainGlobals mg)(b:PySem.W.nsIn K mainGlobals x=some (some (.ref C)))(kp:PySem.W.keepIn K (.ref C)=true)(l:K.lookup C=some (excClassObj nm q C N bs A0 true sn sub ab col dd k0 k1 k2 k3 k5 "Exception.__new__"))(l2:K.lookup N=some ⟨oc,od,.dict es n,sl⟩)(sk:es.toList.all tY=true)(i:PySem.W.nsIn K N "__init__"=some (some (.ref f)))(i1:PySem.W.nsIn K N "__setattr__"=some none)(i2:PySem.W.nsIn K N "line"=some none)(i3:PySem.W.nsIn K N "__getattribute__"=some none)(i4:PySem.W.nsIn K N "__getattr__"=some none)(lf:K.lookup f=some ⟨oc',od',.func (PySem.W.fnOf "__init__" qual (gc st) (cI st) (aE st) .none kV doc pm an cdv ct),osl⟩)(c:PySem.W.codeIn K cdv qual=true)(k:PySem.W.keepIn K (.ref f)=true)(fn:PySem.W.isFn K (.ref f)=true)(S:fR ["self","line"] ["self","line"] (aE st))(bd:cI st=[.Assign [.Attribute (.Name "self" p1) "line" p2] (.Name "line" p3) p4])(s1:(aE st).names.lookup ("self":Str)=some .local)(s2:(aE st).names.lookup ("line":Str)=some .local)(bb:∀(kV doc pm:Value) (an:Option Addr) (cdv ct:Value) (us:List Value),us.length=(["self","line"]:List Str).length->bindArgs (PySem.W.fnOf "__init__" qual (gc st) (cI st) (aE st) .none kV doc pm an cdv ct) ⟨us,[]⟩=pure ((["self","line"]:List Str).zip us)):tG K mg x C st :=
 ⟨PySem.W.mg_of X G b,kp,f,_,qual,p1,p2,p3,p4,fun h X=>⟨N,nm,q,bs,sn,sub,ab,col,dd,k0,k1,k2,k3,k5,_,X _ _ l,Fx l2 sk X,lL l2 i,lL l2 i1,lL l2 i2,lL l2 i3,lL l2 i4⟩,kZ lf c k,S,bd,s1,s2,(kZ (st:=st) lf c k).binds bb,fn⟩
noncomputable abbrev Ent:=Str×Tok×Value
noncomputable def uS(P:Params)(e:Ent):DictEntry:=⟨PyData.keyHash P e.1,.str e.1 e.2.1,e.2.2⟩
noncomputable def AM(e:Ent):Key×Value:=(Sum.inr e.1,e.2.2)
theorem pairs_of:∀L:List Ent,Pairs (gq P w) (L.map (uS w.params)) (L.map AM)
 |[]=>.nil
 |e::r=>.cons (kO P w e.1 e.2.1) rfl (pairs_of r)
theorem zI{L:List Ent}{n:Nat}{kvs:List (Key×V)}(X:K.In h)(l:K.lookup d=some ⟨.type "dict",none,.dict (L.map (uS w.params)).toArray n,#[]⟩)(hd:(d==sysModules)=false)(nd:(L.map Prod.fst).Nodup)(few:kvs.length<=1000)(kv:KV kvs (L.map AM)):
  d0 P w H h d (.frz ⟨.type "dict",none,.dict (L.map (uS w.params)).toArray n,#[]⟩ (.dK kvs)):=by
 refine⟨X _ _ l,az (by lia),hd,L.map AM,kv,_,_,n,X _ _ l,⟨rfl,rfl,rfl⟩,rfl,fun e he=>?_,?_,?_⟩
 .obtain⟨z,_,rfl⟩:=KZ.mp (List.mem_toArray.mp he);exact⟨Sum.inr z.1,kO P w z.1 z.2.1,rfl⟩
 .exact pairs_of L
 .have e:(L.map AM).map (·.1)=(L.map Prod.fst).map Sum.inr:=by rw[KY,KY];rfl
  rw[e];exact List.Pairwise.map _ (fun a b h q=>h (Sum.inr.inj q)) nd
noncomputable def wM(L:List (Addr×Obj×HO)):Hp:=fun b=>(L.find? fun x=>x.1==b).map fun x=>.frz x.2.1 x.2.2
theorem zE{q:HO}(h:wM L b=some q):∃o u,(b,o,u)∈L/\q = .frz o u:=by
 unfold wM at h;obtain⟨x,e,rfl⟩:=Kh.mp h;obtain⟨b',o,u⟩:=x;have h1:b'=b:=by simpa using List.find?_some e
 subst h1;exact⟨o,u,K7 e,rfl⟩
theorem Ex{o:Obj}{u:HO}(h:(b,o,u)∈L)(un:∀o' u',(b,o',u')∈L->o'=o/\u'=u):wM L b=some (.frz o u):=by
 unfold wM;cases e:L.find? (fun x=>x.1==b) with
 |none=>exact absurd (List.find?_eq_none.mp e _ h) (by simp)
 |some x =>
  obtain⟨b',o',u'⟩:=x;have h1:b'=b:=by simpa using List.find?_some e
  subst h1;obtain⟨rfl,rfl⟩:=un _ _ (K7 e);rfl
theorem og{Pm:Params}:∀(zi:List Int) (vs:List Value),WellAll Pm h vs (zi.map WData.int)->aU (zi.map V.int) vs
 |[],vs,x=>by cases x;exact .nil
 |i::r,vs,x=>by
  cases x with
  |cons x1 x2 =>
   cases x1;exact .cons ⟨_,rfl⟩ (og r _ x2)
theorem sM:∀{zi yi:List Int} {vs:List Value},aU (zi.map V.int) vs->aU (yi.map V.int) vs->zi=yi
 |[],[],_,_,_=>rfl
 |[],_::_,_,.nil,x=>nomatch x
 |_::_,[],_,.cons _ _,x=>nomatch x
 |i::r,j::s,_,.cons ⟨t,e⟩ x,.cons ⟨u,e'⟩ y=>by
  rw[sM x y];have:=e.symm.trans e';injection this with h _
  rw[h]
theorem vC{vs:List Value}(h:aU (zi.map V.int) vs):vs.length=zi.length:=by rw[<-h.length,Kk]
theorem qt{R:PySem.W.WRecords}{cl:Str->Option Addr}:∀(ns:List Int) (us:List Value),aU (ns.map V.int) us->∃as,ReadsAllW R cl h us (ns.map WData.int) as
 |[],_,.nil=>⟨_,ReadsAllW.nil⟩
 |n::r,_,.cons ⟨t,e⟩ x=>by
  subst e;obtain⟨bs,q⟩:=qt r _ x;exact⟨_,ReadsAllW.cons (ReadsW.int n t) q⟩
theorem wj(h:∀x∈zi,0<=x/\x<=255):zi=(zi.map Int.toNat).map fun(x:Nat)=>(x:Int):=by
 rw[KY];conv=>lhs;rw[<-List.map_id zi]
 exact List.map_congr_left fun x hx=>(Int.toNat_of_nonneg (h x hx).1).symm
structure G1 (w:World) (K:Lq) (c:As) where
 oS:Obj
 tS:Tok
 nS:Nat
 LK:List Ent
 nK:Nat
 LL:List Ent
 nL:Nat
 kvL:List (Key×V)
 s1:K.lookup c.star=some oS
 s2:oS.cls = .type "tuple"
 s3:oS.data = .seq #[.int 42 tS] nS
 k1:K.lookup c.kn=some ⟨.type "dict",none,.dict (LK.map (uS w.params)).toArray nK,#[]⟩
 k2:(c.kn==sysModules)=false
 k3:(LK.map Prod.fst).Nodup
 k4:KV AY (LK.map AM)
 l1:K.lookup c.la=some ⟨.type "dict",none,.dict (LL.map (uS w.params)).toArray nL,#[]⟩
 l2:(c.la==sysModules)=false
 l3:(LL.map Prod.fst).Nodup
 l4:KV kvL (LL.map AM)
 l5:kvL.length<=1000
 l6:∀k:NM.Kd,k ≠ .A->k ≠ .TXT->k ≠ .AAAA->∃a,d9 kvL (Sum.inr (kS k))=some (.ref a)/\∃(o:Obj) (its:Array Value) (n:Nat),K.lookup a=some o/\o.cls = .type "tuple"/\o.data = .seq its n/\its.size<=sizeLine/\aU (nz [(j1 k).1,(j1 k).2.1,(j1 k).2.2]) its.toList
 ne:c.kn≠c.la
noncomputable abbrev G9(vs:List Value):Obj:={cls:=.type "list",data:=.seq vs.toArray}
theorem zu{vs us:List Value}(h:G9 vs=G9 us):vs=us:=by
 have e:Data.seq vs.toArray=Data.seq us.toArray:=congrArg Obj.data h;injection e with e1
 simpa using congrArg Array.toList e1
theorem IT{a b:String}{p q:Value}(e:p=q)(hp:p = .type a)(hq:q = .type b)(n:¬a=b):False:=by
 rw[hp,hq]at e;exact n (Value.type.inj e)
theorem xo{mb:Str->Option Value}{s₁:Shared}{vals:List Value}{yi:List Int}{R:PySem.W.WRecords}{cl:Str->Option Addr}{fa:Addr}(KX:K.In s₁.heap)(hns:s₁.heap.Ns mainGlobals mg)(hb:s₁.heap.Ns builtinsNs mb)(hbb:∀x:Str,x≠"__name__"->mb x=bootBuiltins x)(hlim:s₁.heap.NoLimit)(hg:s₁.gens = #[])(hwl:WellAll w.params s₁.heap vals [.list (zi.map WData.int),.list (yi.map WData.int)])(hzl:zi.length<=65536)(hyl:yi.length<=65535)(hzi:∀x∈zi,0<=x/\x<=255)(hyi:∀x∈yi,0<=x/\x<=255)(hr:fj 11 callerA)(TL:yK K mg s₁.heap c)(M:G1 w K c)(hfa:mg "answer"=some (.ref fa)):
  codeAny (model P w) callerA (.call (.ref fa) ⟨vals,[]⟩) (fun r s'=>∃u as,r = .ok (.ret u)/\ReadsW R cl s'.heap u (.list ((PySn12.answer zi yi).map WData.int)) as/\OldK s₁.heap s'.heap/\s'.os=s₁.os/\AllBare s'.gens) s₁:=by
 cases hwl with
 |cons w1 w2 =>
 cases w2 with
 |cons w2 w3 =>
 cases w3;cases w1 with
 |@list a vs1 _ ha x1 =>
 cases w2 with
 |@list b vs2 _ hb' x2 =>
 have v1:=og zi vs1 x1;have v2:=og yi vs2 x2;have n1:=vC v1;have n2:=vC v2;have ez:=wj hzi;have ey:=wj hyi;have hz255:∀x∈yi.map Int.toNat,x<=255:=fun x hx=>by
  obtain⟨i,hi,rfl⟩:=KZ.mp hx;have:=hyi i hi;lia
 have lz:(zi.map Int.toNat).length=zi.length:=Kk _;have ly:(yi.map Int.toNat).length=yi.length:=Kk _;generalize zi.map Int.toNat=z at ez lz;generalize yi.map Int.toNat=y at ey ly hz255;have vz:zi.map V.int=nz z:=by rw[ez,KY];rfl
 have vy:yi.map V.int=nz y:=by rw[ey,KY];rfl
 have ezy:vs1=vs2->nz z=nz y:=fun e=>by rw[<-vz,<-vy,sM v1 (e▸v2)]
 rw[vz]at v1;rw[vy]at v2;let oK:Obj:=⟨.type "dict",none,.dict (M.LK.map (uS w.params)).toArray M.nK,#[]⟩
 let oL:Obj:=⟨.type "dict",none,.dict (M.LL.map (uS w.params)).toArray M.nL,#[]⟩
 let L:List (Addr×Obj×HO):=[(c.star,M.oS,.tup (nz [42])),(c.kn,oK,.dK AY),(c.la,oL,.dK M.kvL),(a,G9 vs1,.lst (nz z)),(b,G9 vs2,.lst (nz y))]
 have hok:∀(H:Hp) (q:Addr) (o:Obj) (u:HO),(q,o,u)∈L->d0 P w H s₁.heap q (.frz o u):=by
  intro H q o u hq;simp only[L,Kg,List.not_mem_nil,or_false,Prod.mk.injEq]at hq;rcases hq with⟨rfl,rfl,rfl⟩|⟨rfl,rfl,rfl⟩|⟨rfl,rfl,rfl⟩|⟨rfl,rfl,rfl⟩|⟨rfl,rfl,rfl⟩
  .exact⟨KX _ _ M.s1,az (by decide),[.int 42 M.tS],.cons ⟨_,rfl⟩ .nil,_,KX _ _ M.s1,M.s2,_,M.s3⟩
  .exact zI KX M.k1 M.k2 M.k3 (by decide) M.k4
  .exact zI KX M.l1 M.l2 M.l3 M.l5 M.l4
  .exact⟨ha,az (by rw[aD];lia),vs1,_,v1,ha⟩
  .exact⟨hb',az (by rw[aD];lia),vs2,_,v2,hb'⟩
 have get:∀q o u,(q,o,u)∈L->s₁.heap.get? q=some o:=fun q o u h=>(hok (fun _=>none) q o u h).1;have un:∀q o u,(q,o,u)∈L->wM L q=some (.frz o u):=by
  intro q o u h;refine Ex h fun o' u' h'=>?_;have e:o'=o:=Ku ((get _ _ _ h').symm.trans (get _ _ _ h));refine⟨e,?_⟩;have cS:=M.s2;have ne:=M.ne;simp only[L,Kg,List.not_mem_nil,or_false,Prod.mk.injEq]at h h';rcases h with⟨rfl,rfl,rfl⟩|⟨rfl,rfl,rfl⟩|⟨rfl,rfl,rfl⟩|⟨rfl,rfl,rfl⟩|⟨rfl,rfl,rfl⟩<;>rcases h' with⟨e1,e2,e3⟩|⟨e1,e2,e3⟩|⟨e1,e2,e3⟩|⟨e1,e2,e3⟩|⟨e1,e2,e3⟩ <;>
   first
    |exact e3
    |exact absurd e1 ne
    |exact absurd e1.symm ne
    |(rw[e2]at e;rw[e3];exact congrArg HO.lst (ezy (zu e)))
    |(rw[e2]at e;rw[e3];exact congrArg HO.lst (ezy (zu e).symm).symm)
    |(rw[e2]at e;exact(IT (congrArg Obj.cls e) (by first|exact cS|rfl) (by first|exact cS|rfl) (by decide)).elim)
 have tS:=un c.star M.oS (.tup (nz [42])) (by simp[L]);have tK:=un c.kn oK (.dK AY) (by simp[L]);have tL:=un c.la oL (.dK M.kvL) (by simp[L]);have tA:=un a (G9 vs1) (.lst (nz z)) (by simp[L]);have tB:=un b (G9 vs2) (.lst (nz y)) (by simp[L]);have HK:lB P w (wM L) s₁.heap:=fun q u h=>by
  obtain⟨o,u',hm,rfl⟩:=zE h;exact hok _ _ _ _ hm
 have hO:∀q u,wM L q=some u->∃o u',u = .frz o u':=fun q u h=>by
  obtain⟨o,u',_,e⟩:=zE h;exact⟨o,u',e⟩
 generalize wM L=H at tS tK tL tA tB HK hO;have e0:yP P w K mg s₁.heap callerA [] s₁ H:=by
  refine⟨rfl,⟨KX,hns,⟨mb,hb,hbb⟩,hlim⟩,fun q o e=>⟨e,?_⟩,JY _,trivial,fun q hq=>absurd (show q∈([]:List Addr) from hq) (by simp),HK,.of_eq hg⟩;cases hq:H q with
  |none=>exact .inl rfl
  |some u =>
   obtain⟨o',u',rfl⟩:=hO q u hq;have e':=(HK q _ hq).1;rw[e]at e';cases e';exact .inr ⟨u',rfl⟩
 obtain⟨f,fd,F,m,kp,bd⟩:=(Au (P:=P) (w:=w) TL).ex;have ef:fa=f:=Value.ref.inj (Ku (hfa.symm.trans m));subst ef;have bt:BindsTo s₁ fd ⟨[.ref a,.ref b],[]⟩ ((["zone","query"]:List Str).zip [.ref a,.ref b]):=bd s₁ [.ref a,.ref b] KX rfl;have sp:sU K c [.ref a,.ref b] H (fun v H'=>∃r,v = .ref r/\H' r=some (.lst ((AZ z y).map V.int))) fun _ _ _=>False:=by
  refine⟨a,b,z,y,rfl,.inl (.inr ⟨_,tA⟩),.inl (.inr ⟨_,tB⟩),by lia,by lia,hz255,⟨.inr ⟨_,tS⟩,⟨_,tK⟩,_,M.kvL,tL,fun k h1 h2 h3=>?_⟩,fun r H' _ h=>⟨r,rfl,h⟩⟩;obtain⟨q,e,r⟩:=M.l6 k h1 h2 h3;exact⟨q,e,.inr r⟩
 refine codeAny_mono (F.run callerA [] s₁ H ⟨[.ref a,.ref b],[]⟩ [.ref a,.ref b] [.ref a,.ref b] _ _ hr e0 bt (.cons rfl (.cons rfl .nil)) sp) fun r s' x=>?_;cases r with
 |error e =>
  obtain⟨_,_,_,_,_,_,_,z⟩:=(show tJ P w [] H s₁ (fun _ _ _=>False) e s' from x)
  exact z.elim
 |ok fl =>
  cases fl with
  |next=>exact False.elim x
  |brk=>exact False.elim x
  |cont=>exact False.elim x
  |ret u =>
   obtain⟨v,H',os,bare,un',hok',r',q,rfl,hq⟩:=x;have kept:∀b o,s₁.heap.get? b=some o->s'.heap.get? b=some o:=fun b o e=>by
    cases q2:H b with
    |none=>exact un'.keep b o e q2 (by intro z;exact absurd (show b∈([]:List Addr) from z) (by simp)) (by simp)
    |some u2 =>
     obtain⟨ob,u3,rfl⟩:=hO b u2 q2;have z2:=un'.frzs b ob _ q2;have e1:=(HK b _ q2).1;have e2:=(hok' b _ z2).1;rw[e]at e1;cases e1;exact e2
   obtain rfl:u = .ref q:=r';obtain⟨_,its,n,hv,e⟩:=(show d0 P w H' s'.heap q (.lst ((AZ z y).map V.int)) from hok' q _ hq)
   have ed:PySn12.answer zi yi=AZ z y:=by rw[ez,ey];exact GM (by lia) (by lia)
   rw[ed];obtain⟨as,hrd⟩:=qt (R:=R) (cl:=cl) (h:=s'.heap) _ _ hv;exact⟨_,_,rfl,ReadsW.list e rfl rfl hrd,OldK.of_keep kept,os,bare⟩
noncomputable def JC:List Ent:=[("A",513,.int 1 514),("NS",515,.int 2 516),("CNAME",517,.int 5 518),("SOA",519,.int 6 520),("PTR",521,.int 12 522),("MX",523,.int 15 524),("TXT",525,.int 16 526),("AAAA",527,.int 28 528),("SRV",529,.int 33 530)]
noncomputable def JB:List Ent:=[("NS",541,.ref 232),("CNAME",545,.ref 233),("PTR",549,.ref 234),("SOA",553,.ref 235),("MX",557,.ref 236),("SRV",561,.ref 237)]
noncomputable def IK:List (Key×V):=[(Sum.inr "NS",.ref 232),(Sum.inr "CNAME",.ref 233),(Sum.inr "PTR",.ref 234),(Sum.inr "SOA",.ref 235),(Sum.inr "MX",.ref 236),(Sum.inr "SRV",.ref 237)]
noncomputable def Eh(X:K.In h)(s:K.lookup 108=some ⟨.type "tuple",none,.seq #[.int 42 346] 0,#[]⟩)(k:K.lookup 230=some ⟨.type "dict",none,.dict (JC.map (uS w.params)).toArray 9,#[]⟩)(l:K.lookup 231=some ⟨.type "dict",none,.dict (JB.map (uS w.params)).toArray 6,#[]⟩)(t0:K.lookup 232=some ⟨.type "tuple",none,.seq #[.int 0 542,.int 1 543,.int 0 544] 0,#[]⟩)(t1:K.lookup 233=some ⟨.type "tuple",none,.seq #[.int 0 546,.int 1 547,.int 0 548] 0,#[]⟩)(t2:K.lookup 234=some ⟨.type "tuple",none,.seq #[.int 0 550,.int 1 551,.int 0 552] 0,#[]⟩)(t3:K.lookup 235=some ⟨.type "tuple",none,.seq #[.int 0 554,.int 2 555,.int 5 556] 0,#[]⟩)(t4:K.lookup 236=some ⟨.type "tuple",none,.seq #[.int 1 558,.int 1 559,.int 0 560] 0,#[]⟩)(t5:K.lookup 237=some ⟨.type "tuple",none,.seq #[.int 3 562,.int 1 563,.int 0 564] 0,#[]⟩):G1 w K ⟨24,44,57,254,322,379,461,543,108,230,231⟩ where
 oS:=_
 tS:=346
 nS:=0
 LK:=JC
 nK:=9
 LL:=JB
 nL:=6
 kvL:=IK
 s1:=s
 s2:=rfl
 s3:=rfl
 k1:=k
 k2:=rfl
 k3:=by decide +kernel
 k4:=(.cons ⟨rfl,_,rfl⟩ (.cons ⟨rfl,_,rfl⟩ (.cons ⟨rfl,_,rfl⟩ (.cons ⟨rfl,_,rfl⟩ (.cons ⟨rfl,_,rfl⟩ (.cons ⟨rfl,_,rfl⟩ (.cons ⟨rfl,_,rfl⟩ (.cons ⟨rfl,_,rfl⟩ (.cons ⟨rfl,_,rfl⟩ .nil)))))))))
 l1:=l
 l2:=rfl
 l3:=by decide +kernel
 l4:=(.cons ⟨rfl,rfl⟩ (.cons ⟨rfl,rfl⟩ (.cons ⟨rfl,rfl⟩ (.cons ⟨rfl,rfl⟩ (.cons ⟨rfl,rfl⟩ (.cons ⟨rfl,rfl⟩ .nil))))))
 l5:=by decide
 l6:=by
  intro k h1 h2 h3
  cases k with
  |A=>exact absurd rfl h1
  |NS=>exact⟨_,rfl,_,_,_,t0,rfl,rfl,by decide,.cons ⟨_,rfl⟩ (.cons ⟨_,rfl⟩ (.cons ⟨_,rfl⟩ .nil))⟩
  |CNAME=>exact⟨_,rfl,_,_,_,t1,rfl,rfl,by decide,.cons ⟨_,rfl⟩ (.cons ⟨_,rfl⟩ (.cons ⟨_,rfl⟩ .nil))⟩
  |SOA=>exact⟨_,rfl,_,_,_,t3,rfl,rfl,by decide,.cons ⟨_,rfl⟩ (.cons ⟨_,rfl⟩ (.cons ⟨_,rfl⟩ .nil))⟩
  |PTR=>exact⟨_,rfl,_,_,_,t2,rfl,rfl,by decide,.cons ⟨_,rfl⟩ (.cons ⟨_,rfl⟩ (.cons ⟨_,rfl⟩ .nil))⟩
  |MX=>exact⟨_,rfl,_,_,_,t4,rfl,rfl,by decide,.cons ⟨_,rfl⟩ (.cons ⟨_,rfl⟩ (.cons ⟨_,rfl⟩ .nil))⟩
  |TXT=>exact absurd rfl h2
  |AAAA=>exact absurd rfl h3
  |SRV=>exact⟨_,rfl,_,_,_,t5,rfl,rfl,by decide,.cons ⟨_,rfl⟩ (.cons ⟨_,rfl⟩ (.cons ⟨_,rfl⟩ .nil))⟩
 ne:=by decide
theorem walk2{q:Program}{loose:List Str}{XP:(Str->Option Value)->Heap->Prop}{YP:World->Heap->Prop}{d:DefRec}{K:Params->Lq}(hwell:PySem.Challenge.rw_nameserve_s01_answer.wellSaid=true)(hr:fj 11 callerA)(hd:d.name="answer")(hY:∀(w:World) (h:Heap),YP w h->(K w.params).In h)(F:∀(w:World) (mg:Str->Option Value) (h:Heap),(K w.params).In h->h.Ns mainGlobals mg->∃c,yK (K w.params) mg h c/\Nonempty (G1 w (K w.params) c)):
  PySem.W.WalkOS q loose XP YP PySem.Challenge.rw_nameserve_s01_answer d [] (fun f vs=>PySem.call f vs):=by
 intro w s_0 s₁ mg mb G Y fa o pm cd doc dV kV ho hdd hcd hD hmg hg args vals as hpre hlay hrd hwl hlo;obtain⟨a,e1,e2⟩:=PySem.W.os_pre_some hpre;obtain⟨e3,hwi⟩:=Codec.encAll_of_decAll _ args a e1;subst e3;obtain⟨zi,yi,u⟩:=a;have KX:=hY w _ Y;obtain⟨c,TL,⟨M⟩⟩:=F w mg _ KX G.T.g;rw[hd]at hmg;have b:((Codec.inLen 0 65536 zi&&zi.all (Codec.inInt 0 255))&&((Codec.inLen 0 65535 yi&&yi.all (Codec.inInt 0 255))&&true))=true:=hwi;simp only[Kt,Ln]at b;obtain⟨⟨b1,b2⟩,⟨b3,b4⟩,_⟩:=b;have in_:∀x:Int,Codec.inInt 0 255 x=true->0<=x/\x<=255:=fun x h=>by simpa [Codec.inInt]using h
 refine PySem.W.enter_call (codeAny_mono (xo (R:=[]) (cl:=classAt s_0.heap) (zi:=zi) (yi:=yi) KX G.T.g G.T.b G.T.builtins G.T.nolimit hg hwl (Codec.inNat_iff.mp b1).2 (Codec.inNat_iff.mp b3).2 (fun x hx=>in_ x (b2 x hx)) (fun x hx=>in_ x (b4 x hx)) hr TL M hmg) fun r' s' hq=>?_);obtain⟨v,as',rfl,h1,h2,h3,h4⟩:=hq;exact⟨.inl ⟨v,_,as',rfl,fun _=>rfl,h1,(OpenSpec.post_iff hwell hwi _ _).mpr rfl,fun z=>Bool.noConfusion (show false=true from z)⟩,h2,h3,h4⟩
end NS
structure PySem.W.Fast:Prop where(tw9841290820518565126 tw17536510733460355473 tw11524527517565681200 tw17970291318966675119 tw14823330365195820805 tw4481706161352417657 tw10663106009623201203 tw15200688391458764643 tw7117377632511316647 tw10059718468035799961 tw3166072199538376059 tw4918104226431915740 tw8681765722892657263 tw4630392208239029995 tw8895549697476181689 tw2293376923230881982 tw15833596200992699324 tw14271833387151200759 tw18382445041005466789 tw14263330308443916453 tw10602036563595435916 tw11808774213805207080 tw17828473263676417611 tw13438865043535218593 tw4181462359368020930 tw14581321750920889030 tw873689027369853655 tw8388336461267913157 tw12521779341160231192 tw3438197233721437857 tw7079288013475846345 tw7479084060881943387 tw18411393186492258104 tw7780364410021046427 tw5869570813962187417 tw14530403464687395703 tw13547120043631623470 tw15850341540632376324 tw2134006051789495657 tw2532785763460852070 tw9977363875866694462 tw8226046275086243193 tw8987854399131823412 tw12574380476115401802 tw14872994081703832497 tw1108213799406833698 tw18007819746704302208 tw17557930533416194562 tw12840029557818634110 tw17114573586972980758 tw6023539634041364821 tw12756062054822371740 tw12359612324931253702 tw16015360196000778850 tw18442601398699647483 tw16834688313511949186 tw12014453874429172004 tw9814341558425872430 tw2495336537805970660 tw6230296706649616633 tw3074736686817080874 tw17464681155401016728 tw7705709241667964184 tw13409712595883730285 tw13007442083958222814 tw14348963893137645041 tw17422069571655969817 tw13978186079457538972 tw2006557532633938657 tw16446730813552042109 tw4442145139594969243 tw12169887033550237637 tw1175604563586736056 tw20320135601911955 tw16174585512143691368 tw2039682633419769108 tw6550662054563085596 tw2830669519288026351 tw17106294315641061830 tw2691451006770109614 tw12517995382734502683 tw12487681924344132332 tw4366271115036565251 tw16506348955293995568 tw4694720395112181312 tw1427995004134993258 tw15158641455006921028 tw3498516703357533779 tw12209677162738702860 tw3240619790627096541 tw7963141518150242405 tw9912416030107530293 tw266660272339942501 tw6818175907927904904 tw13133235736553591052 tw18079289400870158330 tw18023043978645982082 tw6330608050602947870 tw906066488993225610 tw16073885218222835715 tw7310867341576896169 tw6034038064468808083 tw5679338669720598290 tw15395158433647961054 tw7780483218098145230 tw6719610457753020734 tw13133034194214875835 tw11304294527236363162 tw8353546086710814942 tw17085593067407682234 tw14816365963174196765 tw6258532829687056160 tw14545741821610940565 tw17055008620576854017 tw6386653125890325505 tw5437207142555851006 tw9873688017700467257 tw2904600043891919108 tw9246660877705687341 tw6933568208550733186 tw6626913135566874730 tw8445027598026871504 tw9567361917157249747 tw14670981037765805362 tw7929417541394073348 tw14634167399246481211 tw17397423357878349692 tw15939369704373362730 tw12244741948778231656 tw16442935280629979201 tw8171383723707103761 tw17908374723614857661 tw2470750999623227289 tw2276900723689453570 tw13318743515202732833 tw2613055557692627544 tw3348488401496861266 tw16671120720634385776 tw8560482693790999428 tw12544276328108071533 tw6206988886031921848 tw2438625261544250226 tw10966692778444351661 tw1647472229868932619 tw13392009030030167795 tw9878227179770130506 tw6216318508672686371 tw688893563211098779 tw16174546458173177206 tw3530683187237572692 tw17338686933065700325 tw758577607507696020 tw18191452486563924811 tw947057782654133186 tw388823363734893957 tw14770406655921613365 tw10206054024796097298 tw9606185296640394823 tw1827461084489605837 tw4048513521012521997 tw8286331551084861102 tw15573352484093694452 tw7561769940756986638 tw18420689392783170029 tw18347721595587121273 tw13310810711503464813 tw3888571685313663159 tw14758858255061565623 tw18258546983777258742 tw7401572661369338593 tw18203253793587064868 tw5017721114161109960 tw14053200989425555659 tw8713335796959218584 tw14678244759318355460 tw14036252011096810456 tw7241383027184958711 tw3411889940738090971 tw16764872767919950962 tw5362610200550987601 tw15450847142803022302 tw17941364374777052143 tw118871036033519184 tw4861684124971029836 tw786315255046315563 tw11601069221763932040 tw15191841965753477191 tw3290867740579983665 tw17599988669015699126 tw18043824075143009592 tw4901858113197412352 tw14754074842739766363 tw1552186357162582413 tw16444296703529359751 tw10421804643707968440 tw9360027797849931566 tw4227731787483465112 tw5733511655203785280 tw13200804813781638987 tw15797447504542336813 tw10201113090341290558 tw16808064207729330835 tw5873183439424605754 tw3483758252104244351 tw11126038458853130784 tw7545882786775259176 tw10992608523204428883 tw8903483706422093326:True)
open PySem PySem.W PyProof.Rows
local macro_rules | `(tactic| walk_at "B")=> `(tactic| (intro _ _ _ _ _ _ us hl;first|(match us,hl with|[_],_=>rfl)|(match us,hl with|[_,_],_=>rfl)|(match us,hl with|[_,_,_],_=>rfl)|(match us,hl with|[_,_,_,_],_=>rfl)|(match us,hl with|[_,_,_,_,_],_=>rfl)))
local macro_rules | `(tactic| walk_at "T")=> `(tactic| first|exact NS.aJ (by assumption) (by assumption) (by k_is) (by k_is) (by k_is) (by k_is) (by walk_at "B")|exact PySem.W.mg_none_of (by assumption) (by assumption) (by k_is)|exact PySem.W.mg_of (by assumption) (by assumption) (by k_is)|exact NS.gQ (by assumption) (by k_is) (by k_is) (by k_is) (by k_is) (by k_is) (by walk_at "B")|exact NS.rj (by assumption) (by k_is) (by k_is) (by k_is) (by k_is) (by k_is) (by k_is) (by k_is) (by walk_at "B")|exact NS.fY (by assumption) (by k_is)|exact NS.rK (by assumption) (by k_is) (by k_is) (by k_is) (by k_is)|exact NS.CK (by assumption) (by assumption) (by k_is) (by k_is) (by k_is) (by kernel_rfl) (by k_is)|assumption|exact⟨_,PySem.W.mg_of (by assumption) (by assumption) (by k_is)⟩)
set_option maxRecDepth 100000 in
set_option maxHeartbeats 0 in
theorem PySem.Challenge.cw_nameserve_s01_answer_holds : PySem.Challenge.rw_nameserve_s01_answer.Holds := by
 w_on;k_headS;(case hw=>exact⟨[.list [],.list []],by decide +kernel,by decide +kernel⟩)
 k_fillS
 refine NS.walk2 (by decide +kernel) ⟨rfl,by decide,by decide⟩ rfl (fun w h Y=>PySem.W.kIn_of Y) ?F
 intro w mg h KX G
 have f_g:NS.Gm mg:=by constructor<;>walk_at "T"
 have f_xl:L2.tG _ mg "LineFault" 44 (L2.inClass (NS.top 2) 0):=NS.A1 KX G (by k_is) (by k_is) (by k_is) (by k_is) (by kernel_rfl) (by k_is) (by k_is) (by k_is) (by k_is) (by k_is) (by k_is) (by k_is) (by k_is) (by k_is) ⟨rfl,rfl,rfl,by decide +kernel,rfl,by decide +kernel,by decide +kernel⟩ rfl rfl rfl (by walk_at "B")
 refine⟨⟨24,44,57,254,322,379,461,543,108,230,231⟩,⟨?_,f_xl,by decide⟩,⟨NS.Eh KX (by k_is) (by kernel_rfl) (by kernel_rfl) (by k_is) (by k_is) (by k_is) (by k_is) (by k_is) (by k_is)⟩⟩
 constructor<;>(try dsimp only)<;>walk_at "T"
