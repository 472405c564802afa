/- Parts. -/
import Derived.Test.YtacgbldlonoaaaaGreatDoorRw9
import Derived.Test.YtacgbldlonoaaaaGreatDoorRw8
namespace Go.Proofs.YtacgbldlonoaaaaGreatDoor
open Go.Proofs.Tryz
set_option maxHeartbeats 4000000
open Mth
variable (no:Int) (k:ByteArray) (n:Int) (m:Mg) (w:World) {l:List Pu} {G:ByteArray->Pu} {p q:Pu} {mb g B:Nat} {key a b:ByteArray} {dm df ds:Int} {t:TypeId} {v a0 a1:Value} {A:Obj} {P:Program} {W:World} {D:DataW Unit}
namespace Fo
open Go.RowKit
theorem two_blocks {w w1:World} {B:Obj} (hb:Below ((w.alloc A).alloc B).heap.size ((w.alloc A).alloc B) w1):
 w1.heap[w.heap.size]?=some A/\w1.heap[w.heap.size+1]?=some B/\w.heap.size+1 < w1.heap.size/\aY w w1:=by
 have hs:((w.alloc A).alloc B).heap.size=w.heap.size+1+1:=Aac
 have hz:=hb.size;refine⟨?_,?_,Aaa,(((Below.refl _ _).alloc (Nat.le_refl _) _).alloc Aac _).trans (hb.mono Aaa)⟩
 .rw [hb.block _ Aaa,Below.heap_alloc _ _ _ Aac];exact heap_alloc_new w A
 .rw [hb.block _ Aaa];have h:=heap_alloc_new (w.alloc A) B;rwa [show(w.alloc A).heap.size=w.heap.size+1 by simp] at h
theorem one_block {w w1:World} (hb:Below (w.alloc A).heap.size (w.alloc A) w1):
 w1.heap[w.heap.size]?=some A/\w.heap.size < w1.heap.size/\aY w w1:=by
 have hs:(w.alloc A).heap.size=w.heap.size+1:=Aac
 have hz:=hb.size;refine⟨?_,Aaa,((Below.refl _ _).alloc (Nat.le_refl _) _).trans (hb.mono Aaa)⟩;rw [hb.block _ Aaa];exact heap_alloc_new w A
theorem blk_set {w:World} {c:Nat} {cs:Array Value} (h:w.heap[c]?=some (.cells cs t (0,0))) (i:Nat) (v:Value):(w.setCell ⟨c,i,none⟩ v).heap[c]?=some (.cells (cs.setIfInBounds i v) t (0,0)):=by
 exact WG
theorem four_set {w:World} {a2 a3 b0 b1 b2 b3:Value} (h:w.heap[g]?=some (.cells #[a0,a1,a2,a3] t (0,0))):
 ((((w.setCell ⟨g,0,none⟩ b0).setCell ⟨g,1,none⟩ b1).setCell ⟨g,2,none⟩ b2).setCell ⟨g,3,none⟩ b3).heap[g]?=some (.cells #[b0,b1,b2,b3] t (0,0)):=
 blk_set (blk_set (blk_set (blk_set h 0 b0) 1 b1) 2 b2) 3 b3
theorem four_below {a w:World} {b0 b1 b2 b3:Value} (h:Below B a w) (hg:B<=g):
 Below B a ((((w.setCell ⟨g,0,none⟩ b0).setCell ⟨g,1,none⟩ b1).setCell ⟨g,2,none⟩ b2).setCell ⟨g,3,none⟩ b3):=
 (((h.setCell (p:=⟨g,0,none⟩) hg b0).setCell (p:=⟨g,1,none⟩) hg b1).setCell (p:=⟨g,2,none⟩) hg b2).setCell (p:=⟨g,3,none⟩) hg b3
theorem one_other {w:World} {g' i:Nat} {o:Option Obj} (h:w.heap[g']?=o) (hne:g'≠g):(w.setCell ⟨g,i,none⟩ v).heap[g']?=o:=by
 rw [Below.heap_setCell _ _ _ _ hne,h]
theorem bodyPost_at {fn:Func} {Q:Ending->World->Prop} {x:Exit} {act:Act} (h:∀W',W'=W->bodyPost P fn Q x act W'):bodyPost P fn Q x act W:=h W rfl
theorem wp_at {c:Code} {Q:Exit->Act->World->Prop} {a:Act} (h:∀W',W'=W->Code.wp P c Q a W'):Code.wp P c Q a W:=h W rfl
theorem lt_of_blk {w:World} {o:Obj} (h:w.heap[g]?=some o):g < w.heap.size:=by
 exact ajb
theorem setCell_size (w:World) (p:Addr) (v:Value):(w.setCell p v).heap.size=w.heap.size:=by
 unfold World.setCell;simp
end Fo
open Go.RowKit Go.Maps
open Mth
namespace Mth
def nothing (p:Pu):Bool:=p.m == 0&&p.f == 0&&p.s == 0
theorem Qi (p:Pu):nothing p=true↔p.m=0/\p.f=0/\p.s=0:=by unfold nothing;simp[and_assoc]
def upd (G:ByteArray->Pu) (p:Pu):ByteArray->Pu:=λk=>if k=p.k then p else G k
end Mth
def Mv:Value->Option (DataW Unit×List MemPlace)
 | .agg ⟨[.string k,.int .i64 m,.int .i64 f,.int .i64 s]⟩=>some (.agg [.lit (.string k.data.toList),.lit (.int .i64 m),.lit (.int .i64 f),.lit (.int .i64 s)],[])
 |_=>none
def Ak (p:Pu):DataW Unit:= .agg [.lit (.string p.k.data.toList),.lit (.int .i64 p.m),.lit (.int .i64 p.f),.lit (.int .i64 p.s)]
theorem Ke (p:Pu):Mv (Al p)=some (Ak p,[]):=rfl
theorem F6 {ps:List MemPlace} (h:Mv v=some (Ak p,ps)):v=Al p:=by
 unfold Mv at h;split at h
 .rename_i k m f s
  obtain⟨pk,pm,pf,ps⟩:=p;simp only[Ak,Option.some.injEq,Prod.mk.injEq,DataW.agg.injEq,List.cons.injEq,DataW.lit.injEq,Lit.string.injEq,Lit.int.injEq,true_and,and_true] at h;obtain⟨⟨h1,h2,h3,h4⟩,_⟩:=h;subst h2 h3 h4;have e:k=pk:=ByteArray.ext (Array.toList_inj.1 h1);rw [e]
 .cases h
abbrev klit (k:ByteArray):Lit:= .string k.data.toList
theorem Et (h:a≠b):klit a≠klit b:=λe=>h (by
 injection e with e
 exact ByteArray.ext (Array.toList_inj.1 e))
theorem TK:Keyed Tryz.prog 9:=string_keyed Tryz.underlying9
theorem abY (s:ByteArray) (hs:s.size<=maxLen):keyOf Tryz.prog 9 (.string s)=some (klit s):=Go.WideMaps.keyOf_string_mk Tryz.underlying9 hs
theorem ako (w:World):(zeroValue 143).run Tryz.prog w= .ok (Al ⟨ByteArray.empty,0,0,0⟩) w:=Aab
def Agr (D:DataW Unit) (G:ByteArray->Pu):Prop:=∀k,(G k).k=k/\Maps.has D (klit k)= !nothing (G k)/\(nothing (G k)=false->∀z,D.atKey (klit k) z=Ak (G k))
def iN (w:World) (mb n:Nat) (G:ByteArray->Pu):Prop:=∃D,w.ownsMap Tryz.prog 9 Mv mb n D/\Agr D G
theorem Agr.empty:Agr (.map []) (λk=>⟨k,0,0,0⟩):=λk=>⟨rfl,rfl,λh=>Aar⟩
theorem Agr.put (h:Agr D G) (hD:Maps.IsMap D) (p:Pu) (hp:nothing p=false):Agr (D.put (klit p.k) (Ak p)) (upd G p):=by
 intro k;unfold upd;by_cases e:k=p.k
 .rw [if_pos e,e];exact⟨rfl,by rw [has_put_same hD (show WideAt.IsKeyLit (klit p.k) from trivial),hp];rfl,λ_ z=>atKey_put_same hD (show WideAt.IsKeyLit (klit p.k) from trivial) _ z⟩
 .rw [if_neg e];obtain⟨h1,h2,h3⟩:=h k;exact⟨h1,by rw [has_put_other (Et e),h2],λhn z=>by rw [atKey_put_other (Et e)];exact h3 hn z⟩
theorem Agr.del (h:Agr D G) (p:Pu) (hp:nothing p=true):Agr (D.del (klit p.k)) (upd G p):=by
 intro k;unfold upd;by_cases e:k=p.k
 .rw [if_pos e,e];exact⟨rfl,by rw [has_del_same,hp];rfl,λhn=>by rw [hp] at hn;cases hn⟩
 .rw [if_neg e];obtain⟨h1,h2,h3⟩:=h k;exact⟨h1,by rw [has_del_other (Et e),h2],λhn z=>by rw [atKey_del_other (Et e)];exact h3 hn z⟩
theorem iN.made (w:World):iN (w.alloc (.map #[] 0)) w.heap.size 0 (λk=>⟨k,0,0,0⟩):=⟨_,World.ownsMap_made w _ _ _,Agr.empty⟩
theorem iN.lt {w:World} {n:Nat} (h:iN w mb n G):mb < w.heap.size:=h.choose_spec.1.lt
theorem iN.kept {w w':World} {n:Nat} (h:iN w mb n G) (hb:w'.heap[mb]?=w.heap[mb]?):iN w' mb n G:=by
 exact ahW
theorem iN.look {w:World} {n:Nat} (h:iN w mb n G) (k:ByteArray) (hk:k.size<=maxLen):
 (Instr.lookup 304 (.map (some mb)) (.string k) true).run Tryz.prog w= .ok (.tuple #[Al (if nothing (G k) then⟨ByteArray.empty,0,0,0⟩ else G k),.bool (!nothing (G k))]) w:=by
 obtain⟨D,hown,ha⟩:=h;obtain⟨v,ps,hrun,hv⟩:=hown.look_ok TK Tryz.underlying304 (ako w) (Ke _) (abY k hk);obtain⟨_,h2,h3⟩:=ha k;rw [hrun,h2];cases hn:nothing (G k)
 .rw [h3 hn] at hv;rw [F6 hv];rfl
 .rw [hn] at h2;rw [atKey_of_not_has h2] at hv;rw [F6 hv];rfl
theorem pR {w w':World} {b:Nat} (h:w.mapTurned w' b):_root_.Go.Proofs.YtacgbldlonoaaaaGreatDoor.Keeps b w w':=by
 have g:=h.grown;exact⟨g.os,g.tape,g.output,g.size,λk hk hne=>g.block k hk (λe=>hne (Option.some.inj e))⟩
theorem iN.store {w:World} {n:Nat} (h:iN w mb n G) (p:Pu) (hk:p.k.size<=maxLen) (hn:n < maxLen) (hp:nothing p=false):
 ∃w',(Instr.mapUpdate 304 (.map (some mb)) (.string p.k) (Al p)).run Tryz.prog w= .ok () w'/\iN w' mb (n+1) (upd G p)/\Keeps mb w w':=by
 obtain⟨D,hown,ha⟩:=h;obtain⟨w',hrun,h1,h2⟩:=hown.store TK Tryz.underlying304 hn (abY p.k hk) (Ke p);exact⟨w',hrun,⟨_,h1,ha.put hown.isMap p hp⟩,pR h2⟩
theorem iN.drop {w:World} {n:Nat} (h:iN w mb n G) (p:Pu) (hk:p.k.size<=maxLen) (hp:nothing p=true) (ty:TypeId):
 ∃w',(Builtin.delete_ #[304,9] ty #[.map (some mb),.string p.k]).run Tryz.prog w= .ok (.tuple #[]) w'/\iN w' mb n (upd G p)/\Keeps mb w w':=by
 obtain⟨D,hown,ha⟩:=h;obtain⟨w',hrun,h1,h2⟩:=hown.drop TK Tryz.underlying304 (abY p.k hk) ty;exact⟨w',hrun,⟨_,h1,ha.del p hp⟩,pR h2⟩
namespace Mth
theorem toList_inj (h:a.toList=b.toList):a=b:=by
 rw [ByteArray.toList_eq,ByteArray.toList_eq] at h;exact ByteArray.ext (Array.toList_inj.1 h)
theorem qy (l:List Pu) (k:ByteArray):(aG l k).k=k:=by
 unfold aG;cases h:l.find? (λp=>p.k.toList == k.toList) with
 |none=>rfl
 |some q=>
  have:=List.find?_some h
  exact toList_inj (by simpa using this)
theorem rJ (hp:l.Pairwise Mf) (hq:q∈l):aG l q.k=q:=by
 unfold aG
 have:l.find? (λp=>p.k.toList == q.k.toList)=some q:=by
  induction l with
  |nil=>simp at hq
  |cons x r ih=>
   rw [List.find?_cons]
   rcases List.mem_cons.1 hq with rfl|hq'
   .simp
   .have hx:x.k.toList < q.k.toList:=(List.pairwise_cons.1 hp).1 q hq'
    have hne:(x.k.toList == q.k.toList)=false:=by
     rw [beq_eq_false_iff_ne];intro e;rw [e] at hx;exact List.lt_irrefl _ hx
    rw [hne];exact ih (List.pairwise_cons.1 hp).2 hq'
 rw [this];rfl
theorem Mw {k:ByteArray} (h:∀q∈l,q.k≠k):aG l k=⟨k,0,0,0⟩:=by
 unfold aG
 have:l.find? (λp=>p.k.toList == k.toList)=none:=by
  rw [List.find?_eq_none];intro q hq;simp only[beq_iff_eq];exact λe=>h q hq (toList_inj e)
 rw [this];rfl
theorem aib (h:a.toList < b.toList):a≠b:=λe=>by rw [e] at h;exact List.lt_irrefl _ h
theorem aeG (hp:l.Pairwise Mf) (p:Pu):(jq l p).map (λq=>upd (aG l) p q.k)=jq l p:=by
 have:∀q∈jq l p,upd (aG l) p q.k=q:=by
  intro q hq;unfold jq at hq;unfold upd;rcases List.mem_append.1 hq with hq|hq
  .rw [if_neg (aib (zL hq))];exact rJ hp ((List.takeWhile_sublist _).mem hq)
  .rcases List.mem_cons.1 hq with rfl|hq
   .rw [if_pos rfl]
   .rw [if_neg (Ne.symm (aib (Nl hp q hq)))];exact rJ hp ((List.dropWhile_sublist _).mem (Gu l p.k q hq))
 exact(List.map_congr_left (g:=id) this).trans (List.map_id _)
def place (l:List Pu) (k:ByteArray):Nat:=(sU l k).length
theorem nG (l:List Pu) (k:ByteArray):place l k<=l.length:=by
 have h:=congrArg List.length (wQ l k);rw [List.length_append] at h;unfold place;omega
theorem head_take (l:List Pu) (k:ByteArray):sU l k=l.take (place l k):=by
 have h:=wQ l k;have:(sU l k++lK l k).take (place l k)=sU l k:=by unfold place;simp
 rw [h] at this;exact this.symm
theorem jS (l:List Pu) (k:ByteArray):lK l k=l.drop (place l k):=by
 have h:=wQ l k;have:(sU l k++lK l k).drop (place l k)=lK l k:=by unfold place;simp
 rw [h] at this;exact this.symm
def found (l:List Pu) (k:ByteArray):Bool:=match lK l k with
 |[]=>false
 |q::_=>q.k.toList == k.toList
theorem wE (h:found l p.k=true):(jq l p).map (·.k)=l.map (·.k):=by
 have hl:=wQ l p.k;unfold found at h;unfold jq lu;cases hf:lK l p.k with
 |nil=>rw [hf] at h;cases h
 |cons q r=>
  rw [hf] at h hl
  dsimp only at h ⊢
  rw [if_pos h]
  rw [<-hl]
  have e:q.k=p.k:=toList_inj Abg
  simp[sU,e]
  rw [show List.takeWhile (λq=>Op.bytesLess q.k.toList p.k.toList) l=sU l p.k from rfl,hl]
  rfl
theorem tC (h:found l p.k=true):(jq l p).length=l.length:=by
 have:=congrArg List.length (wE h);simpa using this
theorem xS (h:found l p.k=false):jq l p=l.take (place l p.k)++p::l.drop (place l p.k):=by
 unfold jq;rw [head_take,<-jS];congr 2
 unfold found at h;unfold lu;cases hf:lK l p.k with
 |nil=>rfl
 |cons q r=>
  rw [hf] at h
  dsimp only at h ⊢
  rw [h]
  rfl
theorem wF (h:found l p.k=false):(jq l p).length=l.length+1:=by
 rw [xS h];have:=nG l p.k;simp;omega
def vZ (l:List Pu) (k:ByteArray) (t:Nat):ByteArray:=(l[t]?).elim k (·.k)
theorem aaX (hp:l.Pairwise Mf) (k:ByteArray):Lib.bsGo (λt=>Op.bytesLess (vZ l k t).toList k.toList) l.length 0 l.length=place l k:=by
 refine Lib.bsGo_spec _ (place l k) ?_ ?_ _ _ _ Aaa (Nat.zero_le _) (nG l k)
 .intro t ht;have ht2:t < l.length:=Nat.lt_of_lt_of_le ht (nG l k)
  have hm:l[t]∈sU l k:=by
   rw [head_take];exact List.mem_take_iff_getElem.2 ⟨t,Aaa,rfl⟩
  unfold vZ;rw [List.getElem?_eq_getElem ht2];exact(qM _ _).2 (zL hm)
 .intro t ht;by_cases ht2:t < l.length
  .unfold vZ;rw [List.getElem?_eq_getElem ht2];show Op.bytesLess l[t].k.toList k.toList=false
   rw [Bool.eq_false_iff];intro hlt;have hlt':=(qM _ _).1 hlt;have hp0:place l k < l.length:=Aaa
   have hf:lK l k=l[place l k]::l.drop (place l k+1):=by rw [jS,List.drop_eq_getElem_cons hp0]
   have h1:=BX l k _ _ hf;rcases Nat.lt_or_ge (place l k) t with h|h
   .have h2:l[place l k].k.toList < l[t].k.toList:=List.pairwise_iff_getElem.1 hp _ _ hp0 ht2 h;exact h1 (List.lt_trans h2 hlt')
   .have e:t=place l k:=Aaa
    subst e;exact h1 hlt'
  .unfold vZ;rw [List.getElem?_eq_none Aaa];show Op.bytesLess k.toList k.toList=false
   rw [Bool.eq_false_iff];intro h;exact List.lt_irrefl _ ((qM _ _).1 h)
theorem OU (l:List Pu) (k:ByteArray):decide (place l k < l.length/\vZ l k (place l k)=k)=found l k:=by
 by_cases h:place l k < l.length
 .have hf:lK l k=l[place l k]::l.drop (place l k+1):=by rw [jS,List.drop_eq_getElem_cons h]
  have hfo:found l k=(l[place l k].k.toList == k.toList):=by unfold found;rw [hf]
  have hka:vZ l k (place l k)=l[place l k].k:=by unfold vZ;rw [List.getElem?_eq_getElem h];rfl
  rw [hfo,Bool.eq_iff_iff,decide_eq_true_iff,beq_iff_eq,hka];exact⟨λe=>by rw [e.2],λe=>⟨h,toList_inj e⟩⟩
 .have hf:lK l k=[]:=by rw [jS];exact List.drop_eq_nil_of_le Aaa
  unfold found;rw [hf];exact decide_eq_false λe=>h e.1
end Mth
open Go.RowKit
namespace Mth
def eX (p:Pu) (dm df ds n:Int):Pu:=⟨p.k,p.m+dm*n,p.f+df*n,p.s+ds*n⟩
end Mth
namespace Mth
def dJ (l:List Pu) (key:ByteArray) (dm df ds n:Int):List Pu×Bool:=rP l (eX (aG l key) dm df ds n) n
theorem aj0 (hp:l.Pairwise Mf) (p:Pu):∀q∈jq l p,upd (aG l) p q.k=q:=by
 intro q hq;obtain⟨i,hi,rfl⟩:=List.mem_iff_getElem.1 hq;have h:=aeG hp p;have h2:=congrArg (λx=>x[i]?) h;simp only[List.getElem?_map,List.getElem?_eq_getElem hi,Option.map_some,Option.some.injEq] at h2;exact h2
theorem put_mem (h:q∈jq l p):q=p\/q∈l:=by
 exact axK
theorem JI {n:Int} (h:jo l=false):dJ l key dm df ds n=(l,false):=by
 unfold dJ rP;rw [h];rfl
theorem KY {n:Int} (h:¬(1<=n/\n<=1000000000)):dJ l key dm df ds n=(l,false):=by
 unfold dJ rP;rw [decide_eq_false h];simp
theorem KW {n:Int} (h:jo l=true) (hn:1<=n/\n<=1000000000):
 dJ l key dm df ds n=if gX (eX (aG l key) dm df ds n)&&decide ((jq l (eX (aG l key) dm df ds n)).length<=20) then(jq l (eX (aG l key) dm df ds n),true) else(l,false):=by
 unfold dJ rP;rw [acE _ h,h,decide_eq_true hn];rfl
theorem Yq {n:Int} (h:keyOk key.data.toList=false):gX (eX (aG l key) dm df ds n)=false:=by
 unfold gX;have:(eX (aG l key) dm df ds n).k=key:=qy l key;rw [this,h];rfl
theorem yJ (h:jo l=true) (hk:keyOk key.data.toList=true):gX (aG l key)=true:=by
 obtain⟨h1,_,_⟩:=(kJ l).1 h;unfold aG;cases hf:l.find? (λp=>p.k.toList == key.toList) with
 |none=>simp[gX,ru,hk]
 |some q=>exact h1 q (List.mem_of_find?_eq_some hf)
theorem tX {d n:Int} (hd:d= -1\/d=0\/d=1) (hn:1<=n/\n<=1000000000): -1000000000<=d*n/\d*n<=1000000000:=by
 rcases hd with rfl|rfl|rfl<;>omega
end Mth
set_option maxRecDepth 100000
theorem FI (p:Pu) (w:World) (hk:p.k.size<=1048576):Calls Tryz.prog 160 #[Al p] w (fF w (Al p)):=by
 obtain⟨pk,pm,pf,ps⟩:=p;have HC:=Hq (λw1=>clone pk w1 (by dsimp only at hk;omega));clear hk;go_in
 go_wp2_with fail;refine(HC _).mono ?_;rintro e w1 ⟨rfl,hb1⟩;obtain⟨hA,hB,hz,hbel⟩:=Fo.two_blocks hb1;have HB:=Hq hB;have gI:=Hq hbel;obtain⟨⟨p0,p1,p2,p3⟩,q0,q1,q2,q3⟩:=gG hA;obtain⟨⟨r0,r1,r2,r3⟩,s0,s1,s2,s3⟩:=gG hB;clear hb1 hA hB hbel;go_wp2_with fail;clear r0 r1 r2 r3;refine Fo.bodyPost_at (λW' hW'=>?_);obtain⟨⟨r0,r1,r2,r3⟩,_⟩:=gG (show W'.heap[w.heap.size+1]?=some (.cells (iM pk pm pf ps) 143 (0,0)) by rw [hW'];exact Fo.four_set (Fo.one_other HB Aaa));have hbb:aY w W':=by rw [hW'];exact Fo.four_below (gI.setCell (p:=⟨w.heap.size,0,none⟩) (Nat.le_refl _) _) Aaa
 refine bodyPost_ret (v:= .agg (iM pk pm pf ps)) (by simp[results,Tryz.results160,go_sem,r0,r1,r2,r3]) rfl ⟨rfl,hbb⟩
theorem PE (a:Option Addr) (cap:Nat) (l:List Pu) (key:ByteArray) (w:World) (hl:l.length<=1048600) (hks:∀p∈l,p.k.size<=1048576) (hkey:key.size<=1048576) (ha:aI w a l):
 Calls Tryz.prog 136 #[.slice a l.length cap,.string key] w (fF w (Al (aG l key))):=by
 have HA:=Hq ha;have YN:=Hq hks;have kR:=Hq (λw1=>clone key w1 Aaa);clear ha hks;go_in
 go_wp2_with fail;go_loopw [9] (λi wr=>∃k:Nat,k<=l.length/\i= .int .i64 k/\(l.take k).find? (λp=>p.k.toList == key.toList)=none/\aY w wr/\wr.heap[w.heap.size]?=some (.cells (iM ⟨#[]⟩ 0 0 0) 143 (0,0))) (λi _=>l.length - (intOf i).toNat)
 case atStart=>exact⟨0,Nat.zero_le _,rfl,rfl,dU w _,heap_alloc_new w _⟩
 case round=>
  obtain⟨k,hk,rfl,hnone,hbel,hblk⟩:=hrel;have HN:=Hq hnone;have gI:=Hq hbel;have GL:=Hq hblk;have aef:=Fo.lt_of_blk hblk;clear hnone hbel hblk;by_cases hlt:k < l.length
  .obtain⟨g,off,rfl,hgw,c0,c1,c2,c3⟩:=aI.four (GR.At.below HA gI) k hlt;have hfs:=JM (λp=>p.k.toList == key.toList) l k hlt HN;have hkk:=ah YN l[k] (List.getElem_mem hlt);cases hf:l[k].k.toList == key.toList
   .have HX:=Hq (hfs.2 hf);clear hfs HN hkk;open avv in exact aar
   .have HX:=Hq (show aG l key=l[k] by unfold aG;rw [hfs.1 hf];rfl);clear hfs HN;open avl in exact agL
  .open anY in exact Hu
theorem OX (a:Option Addr) (cap:Nat) (l:List Pu) (w:World) (hl:l.length<=1048600) (ha:aI w a l):
 Calls Tryz.prog 159 #[.slice a l.length cap] w λe w'=>∃v,e= .returned v/\w'.ownsRow w.heap.size 143 4 v l.length (GR.flat fH l)/\aY w w':=by
 obtain⟨i0,hi,hz0,hz1,hz2⟩:=info_parts Cm;have q22:∀(w:World) (a:Option Addr) (n c n' c':Nat),(binOp .eql 25 (.slice a n c) (.slice none n' c')).run Tryz.prog w= .ok (.bool a.isNone) w:=λw a n c n' c'=>Lib.run_eql_slice_nil w _ _ a n c n' c' Tryz.underlying25
 open avb in exact agG
theorem BJ.of_own {w:World} (h:w.ownsRow B 143 4 v l.length (GR.flat fH l)) (hB:B<=w.heap.size):∃a c g,v= .slice a l.length c/\B<=g/\BJ w a g l:=by
 obtain⟨a,c,rfl,hat⟩:=GR.own_at aX h;rcases h.2 with⟨hv,hn⟩|⟨g,cap,cur,hv,hg,hblk,_⟩
 .have hl:l=[]:=List.eq_nil_of_length_eq_zero hn;subst hl;exact⟨_,_,w.heap.size,rfl,hB,BJ.nil⟩
 .cases hv
  refine⟨_,_,g,rfl,hg,λi hi=>?_⟩;exact agZ
theorem Pt (a:Option Addr) (cap:Nat) (l:List Pu) (w:World) (hl:l.length<=1048576) (hks:∀p∈l,p.k.size<=1048576) (ha:aI w a l):
 Calls Tryz.prog 100 #[.slice a l.length cap] w λe w'=>∃a' c' g,w.heap.size<=g/\e= .returned (.slice a' l.length c')/\BJ w' a' g l/\aY w w':=by
 have kR:=Hq (OX a cap l w Aaa ha);have YN:=Hq hks;clear ha hks;go_in
 go_wp2_with fail;refine kR.mono ?_;rintro e w1 ⟨v,rfl,hown,hb1⟩;obtain⟨a',c',g,rfl,hg,hW⟩:=BJ.of_own hown hb1.size;have HW:=Hq hW;have HB1:=Hq hb1;clear hown hb1 hW kR;go_wp2_with fail;go_loopw [10] (λi wr=>∃k:Nat,k<=l.length/\i= .int .i64 k/\BJ wr a' g l/\aY w wr) (λi _=>l.length - (intOf i).toNat)
 case atStart=>exact⟨0,Nat.zero_le _,rfl,HW,HB1⟩
 case round=>
  obtain⟨k,hk,rfl,hB,hbel⟩:=hrel;have HB:=Hq hB;have gI:=Hq hbel;clear hB hbel;by_cases hlt:k < l.length
  .obtain⟨e0,hgw,⟨q0,q1,q2,q3⟩,_⟩:=BJ.four HB k hlt;subst e0;have hkk:=ah YN l[k] (List.getElem_mem hlt);have hse:l.set k l[k]=l:=List.set_getElem_self hlt;have HSE:=Hq hse;clear hse;open avm in exact agL
  .open anZ in exact Hu
theorem Pz (p:Pu) (w:World):Calls Tryz.prog 269 #[Al p] w (fF w (.bool (nothing p))):=by
 obtain⟨pk,pm,pf,ps⟩:=p;go_in
 go_wp2
 all_goals
  go_ret
  exact⟨by simp[nothing, *],dU w _⟩
theorem nM {w:World} (h:w.heap[g]?=some (.cells #[a0,a1] t (0,0))):
 (w.cell? ⟨g,0,none⟩=some a0/\w.cell? ⟨g,1,none⟩=some a1)/\(w.frozen? ⟨g,0,none⟩=false/\w.frozen? ⟨g,1,none⟩=false):=by
 have hc:∀i,w.cell? ⟨g,i,none⟩=#[a0,a1][i]?:=λi=>cell_of_row w g i _ t (0,0) h
 have hf:∀i,w.frozen? ⟨g,i,none⟩=false:=λi=>by unfold World.frozen?;rw [h];simp
 exact⟨⟨hc 0,hc 1⟩,hf 0,hf 1⟩
theorem iN.mono {w:World} {n n':Nat} (h:iN w mb n G) (hn:n<=n'):iN w mb n' G:=by
 obtain⟨D,h1,h2⟩:=h;exact⟨D,h1.mono hn,h2⟩
theorem Vx (mp mb n:Nat) (v:Value) (G:ByteArray->Pu) (p:Pu) (w:World) (hk:p.k.size<=1048576) (hn:n < maxLen) (hm:w.heap[mp]?=some (.cells #[v,.map (some mb)] 306 (0,0))) (hM:iN w mb n G):
 Calls Tryz.prog 259 #[.pointer (some ⟨mp,0,none⟩),Al p] w λe w'=>e= .returned (.tuple #[])/\iN w' mb (n+1) (upd G p)/\Keeps mb w w':=by
 have HN:=Hq (λw1=>Pz p w1);have HM:=Hq hm;have HI:=Hq hM;have hkm:p.k.size<=maxLen:=Aah
 have hmp:=Fo.lt_of_blk hm;have hmb:=hM.lt;cases hno:nothing p
 .obtain⟨pk,pm,pf,ps⟩:=p;have HST:=Hq (λw1 h=>iN.store (w:=w1) (mb:=mb) (n:=n) (G:=G) h ⟨pk,pm,pf,ps⟩ hkm hn hno);open apU in exact afe
 .obtain⟨pk,pm,pf,ps⟩:=p;have HST:=Hq (λw1 ty h=>iN.drop (w:=w1) (mb:=mb) (n:=n) (G:=G) h ⟨pk,pm,pf,ps⟩ hkm hno ty);open apT in exact afe
theorem LQ (mp mb n:Nat) (v:Value) (G:ByteArray->Pu) (k:ByteArray) (w:World) (hk:k.size<=1048576) (hm:w.heap[mp]?=some (.cells #[v,.map (some mb)] 306 (0,0))) (hM:iN w mb n G):
 Calls Tryz.prog 260 #[.pointer (some ⟨mp,0,none⟩),.string k] w (fF w (Al (G k))):=by
 have hmp:=Fo.lt_of_blk hm;have hmb:=hM.lt;obtain⟨⟨m0,m1⟩,_⟩:=nM hm;have hGk:=(hM.choose_spec.2 k).1;have hrun:=(iN.kept (w':=w.alloc (.cells (iM ⟨#[]⟩ 0 0 0) 143)) hM (by rw [Below.heap_alloc _ _ _ hmb])).look k Aah;clear hm hM;cases hno:nothing (G k)
 .rw [hno] at hrun;generalize G k=p at *;obtain⟨pk,pm,pf,ps⟩:=p;dsimp only at hGk;subst hGk;simp only[Bool.not_false,if_neg Bool.false_ne_true] at hrun;go_in
  go_wp2_with fail;exact bodyPost_ret (v:= .agg (iM pk pm pf ps)) (by simp[results,Tryz.results260,go_sem]) rfl ⟨rfl,((Below.refl _ _).alloc (Nat.le_refl _) _).alloc Aac _⟩
 .have hG0:G k=⟨k,0,0,0⟩:=by
   obtain⟨h1,h2,h3⟩:=(Qi _).1 hno;generalize G k=p at *;obtain⟨pk,pm,pf,ps⟩:=p;dsimp only at hGk h1 h2 h3;rw [hGk,h1,h2,h3]
  rw [hno] at hrun;rw [hG0];clear hno hG0 hGk;simp only[Bool.not_true,if_pos] at hrun;go_in
  go_wp2_with fail;exact bodyPost_ret (v:= .agg (iM k 0 0 0)) (by simp[results,Tryz.results260,go_sem]) rfl ⟨rfl,((Below.refl _ _).alloc (Nat.le_refl _) _).alloc Aac _⟩
theorem Jc (hs:k.size<=maxLen):Calls Tryz.prog 36 #[jX ⟨0,no,k,n,m⟩] w (fF w (.bool (bq ⟨0,no,k,n,m⟩))):=by
 obtain⟨mK,mF,mT,mI,mL,mk,mN⟩:=m;obtain⟨R,hR⟩:∃R,bq ⟨0,no,k,n,⟨mK,mF,mT,mI,mL,mk,mN⟩⟩=R:=⟨_,rfl⟩;exact ai0
theorem Je (hs:k.size<=maxLen):Calls Tryz.prog 36 #[jX ⟨3,no,k,n,m⟩] w (fF w (.bool (bq ⟨3,no,k,n,m⟩))):=by
 obtain⟨mK,mF,mT,mI,mL,mk,mN⟩:=m;obtain⟨R,hR⟩:∃R,bq ⟨3,no,k,n,⟨mK,mF,mT,mI,mL,mk,mN⟩⟩=R:=⟨_,rfl⟩;exact ai0
theorem I9 (hs:k.size<=maxLen):Calls Tryz.prog 36 #[jX ⟨4,no,k,n,m⟩] w (fF w (.bool (bq ⟨4,no,k,n,m⟩))):=by
 obtain⟨mK,mF,mT,mI,mL,mk,mN⟩:=m;obtain⟨R,hR⟩:∃R,bq ⟨4,no,k,n,⟨mK,mF,mT,mI,mL,mk,mN⟩⟩=R:=⟨_,rfl⟩;exact ai0
theorem Gp (hs:k.size<=maxLen):Calls Tryz.prog 36 #[jX ⟨1,no,k,n,m⟩] w (fF w (.bool (bq ⟨1,no,k,n,m⟩))):=by
 obtain⟨mK,mF,mT,mI,mL,mk,mN⟩:=m;obtain⟨R,hR⟩:∃R,bq ⟨1,no,k,n,⟨mK,mF,mT,mI,mL,mk,mN⟩⟩=R:=⟨_,rfl⟩;rw [hR];have HR:=Hq hR;clear hR;cases hk:keyOk k.data.toList
 .have HK:=Hq (λw1=>nK k false w1 hs hk);cases hn:fV n
  .have HN:=Hq (λw1=>eU n false w1 hn);cases ho:fV no
   .have HO:=Hq (λw1=>eU no false w1 ho);have HP:=Hq (show R=(false&&false&&false&&mh ⟨mK,mF,mT,mI,mL,mk,mN⟩) by rw [<-ah HR];simp[bq,hk,hn,ho]);exact OJ
   .have HO:=Hq (λw1=>eU no true w1 ho);have HP:=Hq (show R=(false&&false&&true&&mh ⟨mK,mF,mT,mI,mL,mk,mN⟩) by rw [<-ah HR];simp[bq,hk,hn,ho]);exact OJ
  .have HN:=Hq (λw1=>eU n true w1 hn);cases ho:fV no
   .have HO:=Hq (λw1=>eU no false w1 ho);have HP:=Hq (show R=(false&&true&&false&&mh ⟨mK,mF,mT,mI,mL,mk,mN⟩) by rw [<-ah HR];simp[bq,hk,hn,ho]);exact OJ
   .have HO:=Hq (λw1=>eU no true w1 ho);have HP:=Hq (show R=(false&&true&&true&&mh ⟨mK,mF,mT,mI,mL,mk,mN⟩) by rw [<-ah HR];simp[bq,hk,hn,ho]);exact OJ
 .have HK:=Hq (λw1=>nK k true w1 hs hk);cases hn:fV n
  .have HN:=Hq (λw1=>eU n false w1 hn);cases ho:fV no
   .have HO:=Hq (λw1=>eU no false w1 ho);have HP:=Hq (show R=(true&&false&&false&&mh ⟨mK,mF,mT,mI,mL,mk,mN⟩) by rw [<-ah HR];simp[bq,hk,hn,ho]);exact OJ
   .have HO:=Hq (λw1=>eU no true w1 ho);have HP:=Hq (show R=(true&&false&&true&&mh ⟨mK,mF,mT,mI,mL,mk,mN⟩) by rw [<-ah HR];simp[bq,hk,hn,ho]);exact OJ
  .have HN:=Hq (λw1=>eU n true w1 hn);cases ho:fV no
   .have HO:=Hq (λw1=>eU no false w1 ho);have HP:=Hq (show R=(true&&true&&false&&mh ⟨mK,mF,mT,mI,mL,mk,mN⟩) by rw [<-ah HR];simp[bq,hk,hn,ho]);exact OJ
   .have HO:=Hq (λw1=>eU no true w1 ho);have HP:=Hq (show R=(true&&true&&true&&mh ⟨mK,mF,mT,mI,mL,mk,mN⟩) by rw [<-ah HR];simp[bq,hk,hn,ho]);exact OJ
theorem Cz (_hs:k.size<=maxLen):Calls Tryz.prog 36 #[jX ⟨2,no,k,n,m⟩] w (fF w (.bool (bq ⟨2,no,k,n,m⟩))):=by
 obtain⟨mK,mF,mT,mI,mL,mk,mN⟩:=m;obtain⟨R,hR⟩:∃R,bq ⟨2,no,k,n,⟨mK,mF,mT,mI,mL,mk,mN⟩⟩=R:=⟨_,rfl⟩;rw [hR];have HR:=Hq hR;clear hR;cases ho:fV no
 .have HO:=Hq (λw1=>eU no false w1 ho);have HP:=Hq (show R=(decide (k.toList=[])&&decide (n=0)&&false&&mh ⟨mK,mF,mT,mI,mL,mk,mN⟩) by rw [<-ah HR];simp[bq,ho]);exact axE
 .have HO:=Hq (λw1=>eU no true w1 ho);have HP:=Hq (show R=(decide (k.toList=[])&&decide (n=0)&&true&&mh ⟨mK,mF,mT,mI,mL,mk,mN⟩) by rw [<-ah HR];simp[bq,ho]);exact axE
theorem Jd (_hs:k.size<=maxLen):Calls Tryz.prog 36 #[jX ⟨5,no,k,n,m⟩] w (fF w (.bool (bq ⟨5,no,k,n,m⟩))):=by
 open asf in exact afQ
theorem Jb (hm:m.k.size<=maxLen):Calls Tryz.prog 36 #[jX ⟨6,no,k,n,m⟩] w (fF w (.bool (bq ⟨6,no,k,n,m⟩))):=by
 have HM:=Hq (λw1=>kX m w1 hm);open atF in exact agh
theorem Ja (K no:Int) (k:ByteArray) (n:Int) (m:Mg) (w:World) (h0:¬K=0) (h1:¬K=1) (h2:¬K=2) (h3:¬K=3) (h4:¬K=4) (h5:¬K=5) (h6:¬K=6):Calls Tryz.prog 36 #[jX ⟨K,no,k,n,m⟩] w (fF w (.bool (bq ⟨K,no,k,n,m⟩))):=by
 have HP:=Hq (show bq ⟨K,no,k,n,m⟩=false by simp[bq,h0,h1,h2,h3,h4,h5,h6]);obtain⟨mK,mF,mT,mI,mL,mk,mN⟩:=m;go_in
 go_wp2_with fail;exact WI
theorem jP (o:fP) (w:World) (hs:o.k.size<=maxLen) (hm:o.m.k.size<=maxLen):Calls Tryz.prog 36 #[jX o] w (fF w (.bool (bq o))):=by
 obtain⟨K,no,k,n,m⟩:=o;by_cases h0:K=0
 .subst h0;exact Jc no k n m w hs
 by_cases h1:K=1
 .subst h1;exact Gp no k n m w hs
 by_cases h2:K=2
 .subst h2;exact Cz no k n m w hs
 by_cases h3:K=3
 .subst h3;exact Je no k n m w hs
 by_cases h4:K=4
 .subst h4;exact I9 no k n m w hs
 by_cases h5:K=5
 .subst h5;exact Jd no k n m w hs
 by_cases h6:K=6
 .subst h6;exact Jb no k n m w hm
 exact Ja K no k n m w h0 h1 h2 h3 h4 h5 h6
end Go.Proofs.YtacgbldlonoaaaaGreatDoor
