/- Parts. -/
import Derived.Test.YtbolgdleijjgfaaGreatDoorRf8
import Derived.Test.YtbolgdleijjgfaaGreatDoorRf5
namespace Go.Proofs.YtbolgdleijjgfaaGreatDoor
open Go.Proofs.Tryz
set_option maxHeartbeats 4000000
open Go.RowKit Go.Maps
open Mth
variable (b off cap:Nat) (l:List Pu) (key:ByteArray) (n:Int) (w:World) {G:ByteArray->Pu} {p q:Pu} {mb:Nat} {dm df ds:Int} {w':World} {D:DataW Unit} {k:ByteArray}
namespace Mth
def nothing (p:Pu):Bool:=p.m == 0&&p.f == 0&&p.s == 0
theorem Qw (p:Pu):nothing p=true↔p.m=0/\p.f=0/\p.s=0:=by unfold nothing;simp[and_assoc]
def upd (G:ByteArray->Pu) (p:Pu):ByteArray->Pu:=λk=>if k=p.k then p else G k
end Mth
def M9:Value->Option (DataW Unit×List MemPlace)
 | .agg ⟨[.string k,.int .i64 m,.int .i64 f,.int .i64 s]⟩=>some (.agg [.lit (.string k.data.toList),.lit (.int .i64 m),.lit (.int .i64 f),.lit (.int .i64 s)],[])
 |_=>none
def Bp (p:Pu):DataW Unit:= .agg [.lit (.string p.k.data.toList),.lit (.int .i64 p.m),.lit (.int .i64 p.f),.lit (.int .i64 p.s)]
theorem KI (p:Pu):M9 (yx p)=some (Bp p,[]):=rfl
theorem Gq {v:Value} {ps:List MemPlace} (h:M9 v=some (Bp p,ps)):v=yx p:=by
 unfold M9 at h;split at h
 .rename_i k m f s
  obtain⟨pk,pm,pf,ps⟩:=p;simp only[Bp,aGh,Prod.mk.injEq,DataW.agg.injEq,List.cons.injEq,DataW.lit.injEq,Lit.string.injEq,Lit.int.injEq,true_and,and_true] at h;obtain⟨⟨h1,h2,h3,h4⟩,_⟩:=h;subst h2 h3 h4;have e:k=pk:=aF8 (Array.toList_inj.1 h1);rw [e]
 .cases h
abbrev klit (k:ByteArray):Lit:= .string k.data.toList
theorem EA {a b:ByteArray} (h:a≠b):klit a≠klit b:=λe=>h (by
 injection e with e
 exact aF8 (Array.toList_inj.1 e))
theorem Uo:Keyed Tryz.prog 9:=string_keyed Tryz.underlying9
theorem acB (s:ByteArray) (hs:s.size<=maxLen):keyOf Tryz.prog 9 (.string s)=some (klit s):=Go.WideMaps.keyOf_string_mk Tryz.underlying9 hs
theorem alH (w:World):(zeroValue 155).run Tryz.prog w= .ok (yx ⟨ByteArray.empty,0,0,0⟩) w:=Aab
def Agr (D:DataW Unit) (G:ByteArray->Pu):Prop:=∀k,(G k).k=k/\Maps.has D (klit k)= !nothing (G k)/\(nothing (G k)=false->∀z,D.atKey (klit k) z=Bp (G k))
def iL (w:World) (mb n:Nat) (G:ByteArray->Pu):Prop:=∃D,w.ownsMap Tryz.prog 9 M9 mb n D/\Agr D G
theorem Agr.empty:Agr (.map []) (λk=>⟨k,0,0,0⟩):=λk=>⟨rfl,rfl,λh=>Aba⟩
theorem Agr.put (h:Agr D G) (hD:Maps.IsMap D) (p:Pu) (hp:nothing p=false):Agr (D.put (klit p.k) (Bp p)) (upd G p):=by
 intro k;unfold upd;by_cases e:k=p.k
 .rw [aFc e,e];exact⟨rfl,by rw [has_put_same hD (show WideAt.IsKeyLit (klit p.k) from trivial),hp];rfl,λ_ z=>atKey_put_same hD (show WideAt.IsKeyLit (klit p.k) from trivial) _ z⟩
 .rw [aE2 e];obtain⟨h1,h2,h3⟩:=h k;exact⟨h1,by rw [has_put_other (EA e),h2],λhn z=>by rw [atKey_put_other (EA e)];exact h3 hn z⟩
theorem Agr.del (h:Agr D G) (p:Pu) (hp:nothing p=true):Agr (D.del (klit p.k)) (upd G p):=by
 intro k;unfold upd;by_cases e:k=p.k
 .rw [aFc e,e];exact⟨rfl,by rw [has_del_same,hp];rfl,λhn=>by rw [hp] at hn;cases hn⟩
 .rw [aE2 e];obtain⟨h1,h2,h3⟩:=h k;exact⟨h1,by rw [has_del_other (EA e),h2],λhn z=>by rw [atKey_del_other (EA e)];exact h3 hn z⟩
theorem iL.made (w:World):iL (w.alloc (.map #[] 0)) w.heap.size 0 (λk=>⟨k,0,0,0⟩):=⟨_,World.ownsMap_made w _ _ _,Agr.empty⟩
theorem iL.lt {w:World} {n:Nat} (h:iL w mb n G):mb < w.heap.size:=h.choose_spec.1.lt
theorem iL.kept {w:World} {n:Nat} (h:iL w mb n G) (hb:w'.heap[mb]?=w.heap[mb]?):iL w' mb n G:=by
 exact aiZ
theorem iL.look {w:World} {n:Nat} (h:iL w mb n G) (k:ByteArray) (hk:k.size<=maxLen):
 (Instr.lookup 353 (.map (some mb)) (.string k) true).run Tryz.prog w= .ok (.tuple #[yx (if nothing (G k) then⟨ByteArray.empty,0,0,0⟩ else G k),.bool (!nothing (G k))]) w:=by
 obtain⟨D,hown,ha⟩:=h;obtain⟨v,ps,hrun,hv⟩:=hown.look_ok Uo Tryz.underlying353 (alH w) (KI _) (acB k hk);obtain⟨_,h2,h3⟩:=ha k;rw [hrun,h2];cases hn:nothing (G k)
 .rw [h3 hn] at hv;rw [Gq hv];rfl
 .rw [hn] at h2;rw [atKey_of_not_has h2] at hv;rw [Gq hv];rfl
theorem pO {w:World} {b:Nat} (h:w.mapTurned w' b):_root_.Go.Proofs.YtbolgdleijjgfaaGreatDoor.Keeps b w w':=by
 have g:=h.grown;exact⟨g.os,g.tape,g.output,g.size,λk hk hne=>g.block k hk (λe=>hne (aFI e))⟩
theorem iL.store {w:World} {n:Nat} (h:iL w mb n G) (p:Pu) (hk:p.k.size<=maxLen) (hn:n < maxLen) (hp:nothing p=false):
 ∃w',(Instr.mapUpdate 353 (.map (some mb)) (.string p.k) (yx p)).run Tryz.prog w= .ok () w'/\iL w' mb (n+1) (upd G p)/\Keeps mb w w':=by
 obtain⟨D,hown,ha⟩:=h;obtain⟨w',hrun,h1,h2⟩:=hown.store Uo Tryz.underlying353 hn (acB p.k hk) (KI p);exact⟨w',hrun,⟨_,h1,ha.put hown.isMap p hp⟩,pO h2⟩
theorem iL.drop {w:World} {n:Nat} (h:iL w mb n G) (p:Pu) (hk:p.k.size<=maxLen) (hp:nothing p=true) (ty:TypeId):
 ∃w',(Builtin.delete_ #[353,9] ty #[.map (some mb),.string p.k]).run Tryz.prog w= .ok (.tuple #[]) w'/\iL w' mb n (upd G p)/\Keeps mb w w':=by
 obtain⟨D,hown,ha⟩:=h;obtain⟨w',hrun,h1,h2⟩:=hown.drop Uo Tryz.underlying353 (acB p.k hk) ty;exact⟨w',hrun,⟨_,h1,ha.del p hp⟩,pO h2⟩
namespace Mth
theorem toList_inj {a b:ByteArray} (h:a.toList=b.toList):a=b:=by
 rw [aFG,aFG] at h;exact aF8 (Array.toList_inj.1 h)
theorem qG (l:List Pu) (k:ByteArray):(aD l k).k=k:=by
 unfold aD;cases h:l.find? (λp=>p.k.toList == k.toList) with
 |none=>rfl
 |some q=>
  have:=List.find?_some h;exact toList_inj (by simpa using this)
theorem rX {l:List Pu} (hp:l.Pairwise Oj) (hq:q∈l):aD l q.k=q:=by
 unfold aD
 have:l.find? (λp=>p.k.toList == q.k.toList)=some q:=by
  induction l with
  |nil=>simp at hq
  |cons x r ih=>
   rw [List.find?_cons];rcases aFd.1 hq with rfl|hq'
   .simp
   .grind [List.lt_irrefl,List.pairwise_cons]
 rw [this];rfl
theorem Nf {l:List Pu} (h:∀q∈l,q.k≠k):aD l k=⟨k,0,0,0⟩:=by
 grind [aD,toList_inj,List.find?_eq_none]
theorem ajb {a b:ByteArray} (h:a.toList < b.toList):a≠b:=λe=>by rw [e] at h;exact List.lt_irrefl _ h
theorem afC {l:List Pu} (hp:l.Pairwise Oj) (p:Pu):(jf l p).map (λq=>upd (aD l) p q.k)=jf l p:=by
 have:∀q∈jf l p,upd (aD l) p q.k=q:=by
  intro q hq;unfold jf at hq;unfold upd;rcases aFb.1 hq with hq|hq
  .rw [aE2 (ajb (Av hq))];exact rX hp ((aGm _).mem hq)
  .rcases aFd.1 hq with rfl|hq
   .rw [aFc rfl]
   .rw [aE2 (Ne.symm (ajb (NI hp q hq)))];exact rX hp ((aGb _).mem (Hu l p.k q hq))
 exact(List.map_congr_left (g:=id) this).trans (List.map_id _)
def place (l:List Pu) (k:ByteArray):Nat:=(wP l k).length
theorem mP (l:List Pu) (k:ByteArray):place l k<=l.length:=by
 grind [place,xJ]
theorem head_take (l:List Pu) (k:ByteArray):wP l k=l.take (place l k):=by
 grind [lX,wP,place,xJ]
theorem jM (l:List Pu) (k:ByteArray):lX l k=l.drop (place l k):=by
 grind [lX,wP,place,xJ]
def found (l:List Pu) (k:ByteArray):Bool:=match lX l k with
 |[]=>false
 |q::_=>q.k.toList == k.toList
theorem wX {l:List Pu} (h:found l p.k=true):(jf l p).map (·.k)=l.map (·.k):=by
 grind [found,lX,wP,jf,lG,xJ,toList_inj]
theorem tQ {l:List Pu} (h:found l p.k=true):(jf l p).length=l.length:=by
 have:=congrArg List.length (wX h);simpa using this
theorem yL {l:List Pu} (h:found l p.k=false):jf l p=l.take (place l p.k)++p::l.drop (place l p.k):=by
 grind [found,lX,jf,lG,jM,head_take]
theorem wY {l:List Pu} (h:found l p.k=false):(jf l p).length=l.length+1:=by
 rw [yL h];have:=mP l p.k;simp;omega
def AP (l:List Pu) (k:ByteArray) (t:Nat):ByteArray:=(l[t]?).elim k (·.k)
theorem abp {l:List Pu} (hp:l.Pairwise Oj) (k:ByteArray):Lib.bsGo (λt=>Op.bytesLess (AP l k t).toList k.toList) l.length 0 l.length=place l k:=by
 refine Lib.bsGo_spec _ (place l k) ?_ ?_ _ _ _ Aaa (aE7 _) (mP l k)
 .intro t ht;have ht2:t < l.length:=aEZ ht (mP l k);have hm:l[t]∈wP l k:=by grind [head_take,List.mem_take_iff_getElem]
  grind [AP,Av,qR]
 .intro t ht;by_cases ht2:t < l.length
  .unfold AP;rw [aEV ht2];show Op.bytesLess l[t].k.toList k.toList=false
   rw [aGO];intro hlt;have hlt':=(qR _ _).1 hlt;have hp0:place l k < l.length:=Aaa
   have hf:lX l k=l[place l k]::l.drop (place l k+1):=by rw [jM,aFD hp0]
   have h1:=Ck l k _ _ hf;rcases aF2 (place l k) t with h|h
   .grind [place,List.lt_trans,List.pairwise_iff_getElem]
   .grind
  .grind [AP,qR]
theorem Pg (l:List Pu) (k:ByteArray):decide (place l k < l.length/\AP l k (place l k)=k)=found l k:=by
 by_cases h:place l k < l.length
 .have hf:lX l k=l[place l k]::l.drop (place l k+1):=by rw [jM,aFD h]
  have hfo:found l k=(l[place l k].k.toList == k.toList):=by unfold found;rw [hf]
  grind [AP,place,toList_inj]
 .grind [found,lX,jM,List.drop_eq_nil_of_le]
end Mth
open Go.RowKit
namespace Mth
def fq (p:Pu) (dm df ds n:Int):Pu:=⟨p.k,p.m+dm*n,p.f+df*n,p.s+ds*n⟩
end Mth
namespace Mth
def dB (l:List Pu) (key:ByteArray) (dm df ds n:Int):List Pu×Bool:=sD l (fq (aD l key) dm df ds n) n
theorem ale {l:List Pu} (hp:l.Pairwise Oj) (p:Pu):∀q∈jf l p,upd (aD l) p q.k=q:=by
 intro q hq;obtain⟨i,hi,rfl⟩:=aF3.1 hq;have h:=afC hp p;have h2:=congrArg (λx=>x[i]?) h;simp only[List.getElem?_map,aEV hi,Option.map_some,aGh] at h2;exact h2
theorem put_mem {l:List Pu} (h:q∈jf l p):q=p\/q∈l:=by
 exact ahG
theorem J2 {l:List Pu} {key:ByteArray} {n:Int} (h:jv l=false):dB l key dm df ds n=(l,false):=by
 unfold dB sD;rw [h];rfl
theorem LD {l:List Pu} {key:ByteArray} {n:Int} (h:¬(1<=n/\n<=1000000000)):dB l key dm df ds n=(l,false):=by
 unfold dB sD;rw [aES h];simp
theorem LC {l:List Pu} {key:ByteArray} {n:Int} (h:jv l=true) (hn:1<=n/\n<=1000000000):
 dB l key dm df ds n=if iG (fq (aD l key) dm df ds n)&&decide ((jf l (fq (aD l key) dm df ds n)).length<=20) then(jf l (fq (aD l key) dm df ds n),true) else(l,false):=by
 unfold dB sD;rw [ade _ h,h,aET hn];rfl
theorem Zy {l:List Pu} {key:ByteArray} {n:Int} (h:keyOk key.data.toList=false):iG (fq (aD l key) dm df ds n)=false:=by
 unfold iG;have:(fq (aD l key) dm df ds n).k=key:=qG l key;rw [this,h];rfl
theorem zq {l:List Pu} {key:ByteArray} (h:jv l=true) (hk:keyOk key.data.toList=true):iG (aD l key)=true:=by
 obtain⟨h1,_,_⟩:=(kH l).1 h;unfold aD;cases hf:l.find? (λp=>p.k.toList == key.toList) with
 |none=>simp[iG,rM,hk]
 |some q=>exact h1 q (List.mem_of_find?_eq_some hf)
theorem uD {d n:Int} (hd:d= -1\/d=0\/d=1) (hn:1<=n/\n<=1000000000): -1000000000<=d*n/\d*n<=1000000000:=by
 rcases hd with rfl|rfl|rfl<;>omega
end Mth
set_option maxRecDepth 100000
theorem P9 (p:Pu) (w:World):Calls Tryz.prog 310 #[yx p] w (dU w (.bool (nothing p))):=by
 obtain⟨pk,pm,pf,ps⟩:=p;go_in
 go_wp2
 all_goals
  go_ret
  exact⟨by simp[nothing, *],dS w _⟩
theorem mW {w:World} {g:Nat} {a0 a1:Value} {t:TypeId} (h:w.heap[g]?=some (.cells #[a0,a1] t (0,0))):
 (w.cell? ⟨g,0,none⟩=some a0/\w.cell? ⟨g,1,none⟩=some a1)/\(w.frozen? ⟨g,0,none⟩=false/\w.frozen? ⟨g,1,none⟩=false):=by
 have hc:∀i,w.cell? ⟨g,i,none⟩=#[a0,a1][i]?:=λi=>aE1 w g i _ t (0,0) h
 have hf:∀i,w.frozen? ⟨g,i,none⟩=false:=λi=>by unfold World.frozen?;rw [h];simp
 exact⟨⟨hc 0,hc 1⟩,hf 0,hf 1⟩
theorem iL.mono {w:World} {n n':Nat} (h:iL w mb n G) (hn:n<=n'):iL w mb n' G:=by
 obtain⟨D,h1,h2⟩:=h;exact⟨D,h1.mono hn,h2⟩
theorem WH (mp mb n:Nat) (v:Value) (G:ByteArray->Pu) (p:Pu) (w:World) (hk:p.k.size<=1048576) (hn:n < maxLen) (hm:w.heap[mp]?=some (.cells #[v,.map (some mb)] 356 (0,0))) (hM:iL w mb n G):
 Calls Tryz.prog 303 #[.pointer (some ⟨mp,0,none⟩),yx p] w λe w'=>e= .returned (.tuple #[])/\iL w' mb (n+1) (upd G p)/\Keeps mb w w':=by
 have HN:=Hq (λw1=>P9 p w1);have HM:=Hq hm;have HI:=Hq hM;have hkm:p.k.size<=maxLen:=Aaj
 have hmp:=Fo.lt_of_blk hm;have hmb:=hM.lt;cases hno:nothing p
 .obtain⟨pk,pm,pf,ps⟩:=p;have HST:=Hq (λw1 h=>iL.store (w:=w1) (mb:=mb) (n:=n) (G:=G) h ⟨pk,pm,pf,ps⟩ hkm hn hno);open aqB in exact aw9
 .obtain⟨pk,pm,pf,ps⟩:=p;have HST:=Hq (λw1 ty h=>iL.drop (w:=w1) (mb:=mb) (n:=n) (G:=G) h ⟨pk,pm,pf,ps⟩ hkm hno ty);open aqA in exact aw9
theorem Mt (mp mb n:Nat) (v:Value) (G:ByteArray->Pu) (k:ByteArray) (w:World) (hk:k.size<=1048576) (hm:w.heap[mp]?=some (.cells #[v,.map (some mb)] 356 (0,0))) (hM:iL w mb n G):
 Calls Tryz.prog 304 #[.pointer (some ⟨mp,0,none⟩),.string k] w (dU w (yx (G k))):=by
 have hmp:=Fo.lt_of_blk hm;have hmb:=hM.lt;obtain⟨⟨m0,m1⟩,_⟩:=mW hm;have hGk:=(hM.choose_spec.2 k).1;have hrun:=(iL.kept (w':=w.alloc (.cells (iX ⟨#[]⟩ 0 0 0) 155)) hM (by rw [aE4 _ _ _ hmb])).look k Aaj;clear hm hM;cases hno:nothing (G k)
 .rw [hno] at hrun;generalize G k=p at *;obtain⟨pk,pm,pf,ps⟩:=p;dsimp only at hGk;subst hGk;simp only[Bool.not_false,aE2 Bool.false_ne_true] at hrun;go_in
  go_wp2_with fail;exact aEY (v:= .agg (iX pk pm pf ps)) (by simp[results,Tryz.results304,go_sem]) rfl ⟨rfl,((aE3 _ _).alloc (aER _) _).alloc Aac _⟩
 .have hG0:G k=⟨k,0,0,0⟩:=by
   obtain⟨h1,h2,h3⟩:=(Qw _).1 hno;generalize G k=p at *;obtain⟨pk,pm,pf,ps⟩:=p;dsimp only at hGk h1 h2 h3;rw [hGk,h1,h2,h3]
  rw [hno] at hrun;rw [hG0];clear hno hG0 hGk;simp only[Bool.not_true,aFc] at hrun;go_in
  go_wp2_with fail;exact aEY (v:= .agg (iX k 0 0 0)) (by simp[results,Tryz.results304,go_sem]) rfl ⟨rfl,((aE3 _ _).alloc (aER _) _).alloc Aac _⟩
theorem Vr {w:World} {b off:Nat} {l:List Pu} (h:aG w (some ⟨b,off,none⟩) l) (k:Nat):aG w (some ⟨b,off+k*4,none⟩) (l.drop k):=λi hi=>by
 have hi':k+i < l.length:=Abs
 obtain⟨g,o,e,hg,hc⟩:=h (k+i) hi';injection e with e
 injection e with e1 e2
 subst e1 e2;refine⟨b,off+k*4,rfl,hg,λj hj=>?_⟩;have:=hc j hj;rw [show off+k*4+(i*4+j)=off+((k+i)*4+j) by omega,this];simp
theorem adW {w:World} {a:Option Addr} {l:List Pu} (h:aG w a l) (k:Nat):aG w a (l.take k):=λi hi=>by
 have hi':i < l.length:=Abs
 obtain⟨g,o,e,hg,hc⟩:=h i hi';refine⟨g,o,e,hg,λj hj=>?_⟩;rw [hc j hj];simp
theorem Vs {w:World} {a:Option Addr} {l:List Pu} (h:l=[]):aG w a l:=λi hi=>by rw [h] at hi;simp at hi
theorem Mth.tail_found {l:List Pu} (h:found l k=true):place l k < l.length/\lG l k=l.drop (place l k+1):=by
 have hpl:=mP l k;by_cases hlt:place l k < l.length
 .refine⟨hlt,?_⟩;unfold found at h;unfold lG;rw [jM,aFD hlt] at h ⊢;dsimp only at h ⊢;rw [aFc h]
 .unfold found at h;rw [jM,aGc Aaa] at h;cases h
theorem Mth.tail_not {l:List Pu} {k:ByteArray} (h:found l k=false):lG l k=l.drop (place l k):=by
 unfold found at h;unfold lG;rw [jM] at h ⊢;cases hd:l.drop (place l k) with
 |nil=>rfl
 |cons q r=>
  rw [hd] at h;dsimp only at h ⊢;rw [h];rfl
theorem Mth.put_flat (l:List Pu) (p:Pu):GR.flat fA (l.take (place l p.k))++fA p++GR.flat fA (lG l p.k)=GR.flat fA (jf l p)/\place l p.k+1+(lG l p.k).length=(jf l p).length:=by
 have hpl:=mP l p.k;unfold jf;rw [head_take];constructor
 .rw [GR.flat_append,GR.flat_cons,aFx]
 .simp;omega
theorem Mth.put_mem' {l:List Pu} (h:q∈jf l p):q=p\/q∈l:=by
 exact ahG
theorem Mth.tail_len (l:List Pu) (k:ByteArray):(lG l k).length<=l.length:=by
 cases h:found l k
 .rw [tail_not h];simp
 .rw [(tail_found h).2];simp
theorem pW {P:Program} (w:World) {ops:Array Oper} {o:Oper} {a:Act} {K:Act->World->Prop} {Q:Exit->Act->World->Prop} {E:Prop} (hgd:o.guard=none) (s x:Operand) (t:TypeId)
 (ho:o.op= .call {callee:= .builtin .append,args:=#[s,x],argTypes:=#[t,t]})
 (base:Nat) (e:TypeId) (i:TypeInfo) (z:Value) (size bytes:Nat) (ht:P.underlying t=some (.slice e)) (hi:P.info? e=some i) (hz:i.zero=some z)
 (hsize:i.size=size) (hby:i.bytes=bytes) (hzs:z.cells.size=size) (hsz:0 < size)
 (v:Value) (n:Nat) (xs:List Value) (hs:a.eval s=v) (hown:w.ownsRow base e size v n xs)
 (ad:Addr) (m c:Nat) (news:List Value) (hx:a.eval x= .slice (some ad) m c) (hl:news.length=m*size) (hnews:∀j u,news[j]?=some u->w.cell? (ad.add j)=some u) (h1:∀u∈news,u.oneCell'=true)
 (h63:n+m<=maxLen) (hbytes:(n+m)*bytes<=140737488355328) (hbase:base<=w.heap.size)
 (h:∀v' w',w'.ownsRow base e size v' (n+m) (xs++news)->w.grownBy w' v.ownBlock->(v'= .slice none 0 0↔v= .slice none 0 0/\m=0)->K (a.put o.dst v') w'):
 if Region.wanted o (yielded ops a.tmps)=true then Oper.wp P o a w K Q else E:=by
 exact ahC
theorem uR {w:World} {B:Nat} {row:Option Nat} (hk:w.grownBy w' row) (hg:∀k,row=some k->B<=k) (hB:B<=w.heap.size):Below B w w':=⟨hk.os,hk.tape,hk.output,hk.size,λk hl=>hk.block k Aaa (λe=>by have:=hg k e.symm;omega)⟩
theorem J6 (p:Pu):∀u∈fA p,u.oneCell'=true:=by
 intro u hu;simp only[fA,aFd,aFW,or_false] at hu;rcases hu with rfl|rfl|rfl|rfl<;>rfl
theorem ac8 (v:Value):v.ownBlock=none\/v.ownBlock≠none:=by
 exact aiY
theorem Ce (w:World) (a b:Nat):(w.drewN a).drewN b=w.drewN (a+b):=by
 simp[World.drewN,aFv]
theorem Mth.place_at (l:List Pu) (key:ByteArray) (k:Nat) (hk:k<=l.length) (h1:∀q∈l.take k,Op.bytesLess q.k.toList key.toList=true) (h2:∀h:k < l.length,Op.bytesLess l[k].k.toList key.toList=false):place l key=k/\lX l key=l.drop k:=by
 obtain⟨e1,e2⟩:=adO (λq=>Op.bytesLess q.k.toList key.toList) l k hk h1 h2;unfold place wP lX;rw [e1,e2];exact⟨Aah,rfl⟩
theorem Us (b off:Nat) (cap:Nat) (l:List Pu) (p:Pu) (n:Int) (w:World) (hcap:l.length<=cap) (hk:∀p∈l,p.k.size<=maxLen) (hpk:p.k.size<=maxLen) (ha:aG w (some ⟨b,off,none⟩) l) (hok:jv l=true) (hn:1<=n/\n<=1000000000):
 Calls Tryz.prog 184 #[.slice (some ⟨b,off,none⟩) l.length cap,yx p,.int .i64 n] w λe w'=>∃v,e= .returned (.tuple #[v,.bool (sD l p n).2])/\v≠ .slice none 0 0/\w'.ownsRow w.heap.size 155 4 v (sD l p n).1.length (GR.flat fA (sD l p n).1)/\aH w w':=by
 have hl:l.length<=20:=((kH l).1 hok).2.2;have nH:=Hq (λw1 (h:aG w1 (some ⟨b,off,none⟩) l)=>qx (some ⟨b,off,none⟩) cap l w1 Aaa hk h);have HA:=Hq ha;have hn2:decide (yQ n 1 1000000000)=true:=aET hn;have HW:=Hq (show sD l p n=if jv (jf l p) then(jf l p,true) else(l,false) by unfold sD;rw [hok,aET hn];rfl);clear ha hn;obtain⟨pk,pm,pf,ps⟩:=p;go_in
 go_wp2_with fail;refine(nH _ (GR.At.below HA (dS w _))).mono ?_;rintro e w1 ⟨rfl,hb1⟩;have wH:=Hq (show w1.heap[w.heap.size]?=some (.cells (iX pk pm pf ps) 155 (0,0)) by rw [hb1.block w.heap.size Aac];exact aEP w _);have HB1:=Hq ((dS w _).trans (hb1.mono (dS w _).size))
 have hbw:b < w1.heap.size\/l.length=0:=by
  rcases Nat.eq_zero_or_pos l.length with h|h
  .exact .inr h
  .obtain⟨g,o,e,hg,_⟩:=ah HA 0 h;injection e with e
   injection e with e1 e2
   subst e1;exact .inl (aEZ hg HB1.size)
 clear hb1;rw [hok];clear hok;go_wp2_with fail;refine(Uq _ _ _ _).mono ?_;rintro e w3 ⟨rfl,rfl⟩;rw [hn2];go_upto_block 0 with fail;go_cut [8] (λi wx=>i= .int .i64 (place l pk:Nat)/\∃q,wx=w1.drewN q)
 case first=>
  go_wp2_with fail;go_loopw [8] (λi wr=>∃k q:Nat,k<=l.length/\i= .int .i64 k/\(∀x∈l.take k,Op.bytesLess x.k.toList pk.toList=true)/\wr=w1.drewN q) (λi _=>l.length - (intOf i).toNat)
  case atStart=>exact⟨0,0,aE7 _,rfl,λx hx=>Abe,rfl⟩
  case round=>
   obtain⟨k,q,hk1,rfl,hall,rfl⟩:=hrel;have jA:=Hq hall;clear hall;open asz in exact agw
 case rest=>
  obtain⟨rfl,q,rfl⟩:=hcut;have hpl:=mP l pk
  obtain⟨ad,hAd,hAe⟩:∃ad:Addr,(if cap=place l pk then some (⟨b,off,none⟩:Addr) else some ⟨b,off+place l pk*4,none⟩)=some ad/\(place l pk < l.length->ad=⟨b,off+place l pk*4,none⟩):=by
   by_cases h:cap=place l pk
   .rw [aFc h];exact⟨_,rfl,λh2=>Aaa⟩
   .rw [aE2 h];exact⟨_,rfl,λ_=>rfl⟩
  open asy in exact agw
def jd (w:World) (r:List Pu×Bool) (e:Ending) (w':World):Prop:=∃v,e= .returned (.tuple #[v,.bool r.2])/\v≠ .slice none 0 0/\w'.ownsRow w.heap.size 155 4 v r.1.length (GR.flat fA r.1)/\aH w w'
theorem Mth.purseOf_am {l:List Pu} {key:ByteArray} (h:jv l=true):(0<=(aD l key).m/\(aD l key).m<=1000000000)/\(0<=(aD l key).f/\(aD l key).f<=1000000000)/\(0<=(aD l key).s/\(aD l key).s<=1000000000):=by
 obtain⟨h1,_,_⟩:=(kH l).1 h;unfold aD;cases hf:l.find? (λp=>p.k.toList == key.toList) with
 |none=>simp
 |some q=>
  have hq:=h1 q (List.mem_of_find?_eq_some hf);unfold iG at hq;simp only[aEX] at hq;exact⟨aFa hq.1.1.1.2,aFa hq.1.1.2,aFa hq.1.2⟩
theorem Ga (b off cap:Nat) (l:List Pu) (key:ByteArray) (dm df ds n:Int) (w:World) (hl:l.length<=1048600) (hcap:l.length<=cap) (hk:∀p∈l,p.k.size<=1048576) (hkey:key.size<=1048576) (hd1:dm= -1\/dm=0\/dm=1) (hd2:df= -1\/df=0\/df=1) (hd3:ds= -1\/ds=0\/ds=1) (ha:aG w (some ⟨b,off,none⟩) l):
 Calls Tryz.prog 153 #[.slice (some ⟨b,off,none⟩) l.length cap,.string key,.int .i64 dm,.int .i64 df,.int .i64 ds,.int .i64 n] w (jd w (dB l key dm df ds n)):=by
 have hkm:∀p∈l,p.k.size<=maxLen:=λp hp=>by have:=hk p hp;unfold maxLen;omega
 have JR:=Hq (xq (some ⟨b,off,none⟩) cap l key w hl ha);have HA:=Hq ha;unfold jd;by_cases hin:jv l=true/\1<=n/\n<=1000000000
 .obtain⟨hok,hn1,hn2⟩:=hin;obtain⟨⟨m0,m1⟩,⟨f0,f1⟩,s0,s1⟩:=purseOf_am (key:=key) hok;obtain⟨u10,u11⟩:=uD hd1 ⟨hn1,hn2⟩;obtain⟨u20,u21⟩:=uD hd2 ⟨hn1,hn2⟩;obtain⟨u30,u31⟩:=uD hd3 ⟨hn1,hn2⟩;have hpk:=qG l key;have HWI:=Hq (λw1 (hb:aH w w1)=>Us b off cap l (fq (aD l key) dm df ds n) n w1 hcap hkm (by show(aD l key).k.size<=maxLen;rw [hpk];unfold maxLen;omega) (GR.At.below ha hb) hok ⟨hn1,hn2⟩);have hAm:decide (yQ n 0 1000000000)=true:=aET ⟨Aaa,hn2⟩;unfold dB;clear ha hok hk hkm hd1 hd2 hd3;unfold fq at *;generalize aD l key=p at *;obtain⟨pk,pm,pf,ps⟩:=p;dsimp only at *;subst hpk;generalize sD l ⟨pk,pm+dm*n,pf+df*n,ps+ds*n⟩ n=r at *;go_in
  go_wp2_with fail;refine JR.mono ?_;rintro e w1 ⟨rfl,hb1⟩;have HB1:=Hq hb1;clear hb1 JR;go_wp2_with (go_at_call 91;refine(xM _ _).mono ?_;rintro e w2 ⟨rfl,rfl⟩;rw [hAm])
  refine(HWI _ (HB1.alloc HB1.size _)).mono ?_;rintro e w3 ⟨v,rfl,hv,hown,hb3⟩;have HB3:=Hq ((HB1.alloc HB1.size _).trans (hb3.mono (by have:=HB1.size;simp;omega)));have ER:=Hq (own_lower (b':=w.heap.size) hown (by have:=HB1.size;simp;omega));have HV:=Hq hv;clear hb3 hown hv;go_wp2_with fail;exact aEY (v:= .tuple #[v,.bool r.2]) (by simp[results,Tryz.results153,go_sem]) rfl ⟨v,rfl,HV,ER,HB3⟩
 .have hno:jv l=false\/¬(1<=n/\n<=1000000000):=by
   cases h:jv l
   .exact .inl rfl
   .exact .inr (λhn=>hin ⟨h,hn⟩)
  have HAD:=Hq (show dB l key dm df ds n=(l,false) by
   rcases hno with h|h
   .exact J2 h
   .exact LD h)
  have HWN:=Hq (λp w1 (hb:aH w w1)=>Qo (some ⟨b,off,none⟩) cap l p n w1 hl hkm (λh=>Aba) (GR.At.below ha hb) hno);rw [ah HAD];clear ha hin hno hk hkm hd1 hd2 hd3 HAD;generalize aD l key=p at *;obtain⟨pk,pm,pf,ps⟩:=p;cases hAm:decide (yQ n 0 1000000000)
  all_goals
   go_in
   go_wp2_with fail
   refine JR.mono ?_
   rintro e w1 ⟨rfl,hb1⟩
   have HB1:=Hq hb1
   clear hb1 JR
   go_wp2_with (go_at_call 91;refine(xM _ _).mono ?_;rintro e w2 ⟨rfl,rfl⟩;rw [hAm])
   refine(HWN ⟨_,_,_,_⟩ _ (HB1.alloc HB1.size _)).mono ?_
   rintro e w3 ⟨v,rfl,hv,hown,hb3⟩
   have HB3:=Hq ((HB1.alloc HB1.size _).trans (hb3.mono (by have:=HB1.size;simp;omega)))
   have ER:=Hq (own_lower (b':=w.heap.size) hown (by have:=HB1.size;simp;omega))
   have HV:=Hq hv
   clear hb3 hown hv
   go_wp2_with fail
   exact aEY (v:= .tuple #[v,.bool false]) (by simp[results,Tryz.results153,go_sem]) rfl ⟨v,rfl,HV,ER,HB3⟩
theorem GZ (hl:l.length<=1048600) (hcap:l.length<=cap) (hk:∀p∈l,p.k.size<=1048576) (hkey:key.size<=1048576) (ha:aG w (some ⟨b,off,none⟩) l):
 Calls Tryz.prog 127 #[.slice (some ⟨b,off,none⟩) l.length cap,.string key,.int .i64 n] w (jd w (dB l key (1) (1) (0) n)):=by
 have H:=Hq (Ga b off cap l key (1) (1) (0) n w hl hcap hk hkey Aaa Aaa Aaa ha);clear ha hk;generalize dB l key (1) (1) (0) n=r at *;unfold jd at *;go_in
 open aqj in exact aaZ
theorem adt (hl:l.length<=1048600) (hcap:l.length<=cap) (hk:∀p∈l,p.k.size<=1048576) (hkey:key.size<=1048576) (ha:aG w (some ⟨b,off,none⟩) l):
 Calls Tryz.prog 186 #[.slice (some ⟨b,off,none⟩) l.length cap,.string key,.int .i64 n] w (jd w (dB l key (0) (1) (0) n)):=by
 have H:=Hq (Ga b off cap l key (0) (1) (0) n w hl hcap hk hkey Aaa Aaa Aaa ha);clear ha hk;generalize dB l key (0) (1) (0) n=r at *;unfold jd at *;go_in
 open aqi in exact aaZ
theorem adv (hl:l.length<=1048600) (hcap:l.length<=cap) (hk:∀p∈l,p.k.size<=1048576) (hkey:key.size<=1048576) (ha:aG w (some ⟨b,off,none⟩) l):
 Calls Tryz.prog 160 #[.slice (some ⟨b,off,none⟩) l.length cap,.string key,.int .i64 n] w (jd w (dB l key (0) (-1) (0) n)):=by
 have H:=Hq (Ga b off cap l key (0) (-1) (0) n w hl hcap hk hkey Aaa Aaa Aaa ha);clear ha hk;generalize dB l key (0) (-1) (0) n=r at *;unfold jd at *;go_in
 open aqh in exact aaZ
theorem ZH (hl:l.length<=1048600) (hcap:l.length<=cap) (hk:∀p∈l,p.k.size<=1048576) (hkey:key.size<=1048576) (ha:aG w (some ⟨b,off,none⟩) l):
 Calls Tryz.prog 155 #[.slice (some ⟨b,off,none⟩) l.length cap,.string key,.int .i64 n] w (jd w (dB l key (0) (-1) (1) n)):=by
 have H:=Hq (Ga b off cap l key (0) (-1) (1) n w hl hcap hk hkey Aaa Aaa Aaa ha);clear ha hk;generalize dB l key (0) (-1) (1) n=r at *;unfold jd at *;go_in
 open aqg in exact aaZ
theorem Rv (hl:l.length<=1048600) (hcap:l.length<=cap) (hk:∀p∈l,p.k.size<=1048576) (hkey:key.size<=1048576) (ha:aG w (some ⟨b,off,none⟩) l):
 Calls Tryz.prog 156 #[.slice (some ⟨b,off,none⟩) l.length cap,.string key,.int .i64 n] w (jd w (dB l key (0) (1) (-1) n)):=by
 have H:=Hq (Ga b off cap l key (0) (1) (-1) n w hl hcap hk hkey Aaa Aaa Aaa ha);clear ha hk;generalize dB l key (0) (1) (-1) n=r at *;unfold jd at *;go_in
 open aqf in exact aaZ
end Go.Proofs.YtbolgdleijjgfaaGreatDoor
