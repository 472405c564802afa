/- Parts. -/
import Derived.Test.YtacgbldlonoaaaaGreatDoorRr14
namespace Go.Proofs.YtacgbldlonoaaaaGreatDoor
set_option maxHeartbeats 4000000
open Go.RowKit
open Mth
theorem GR.W.fourReq {w:World} {a:Option Addr} {g:Nat} {l:List Rq} (h:GR.W aM 4 w a g l) (i:Nat) (hi:i < l.length):a=some ⟨g,0,none⟩/\g < w.heap.size/\(w.cell? ⟨g,i*4,none⟩=some (.int .i64 l[i].no)/\w.cell? ⟨g,i*4+1,none⟩=some (.string l[i].k)/\w.cell? ⟨g,i*4+2,none⟩=some (.int .i64 l[i].n)/\w.cell? ⟨g,i*4+3,none⟩=some (.int .i64 l[i].s))/\w.frozen? ⟨g,i*4,none⟩=false/\w.frozen? ⟨g,i*4+1,none⟩=false/\w.frozen? ⟨g,i*4+2,none⟩=false/\w.frozen? ⟨g,i*4+3,none⟩=false:=by
 exact asJ
theorem GR.W.one {w:World} {a:Option Addr} {g:Nat} {l:List Int} (h:GR.W aW 1 w a g l) (i:Nat) (hi:i < l.length):a=some ⟨g,0,none⟩/\g < w.heap.size/\w.cell? ⟨g,i,none⟩=some (.int .i64 l[i])/\w.frozen? ⟨g,i,none⟩=false:=by
 obtain⟨e,hg,hc⟩:=h i hi;exact⟨e,hg,by simpa using(hc 0 Aaa).1,by simpa using(hc 0 Aaa).2⟩
theorem fP.put {w:World} {a:Option Addr} {g:Nat} {I:Nat->Nat} {l:List Sn} (h:fP w a g I l) (k:Nat) (hk:k < l.length) (f lo:Int) (hne:∀x∈qw I l,x≠g):
 fP ((w.setCell ⟨g,k*3,none⟩ (.int .i64 f)).setCell ⟨g,k*3+1,none⟩ (.int .i64 lo)) a g I (l.set k ⟨f,lo,l[k].ids⟩):=by
 obtain⟨T,hT,hl,hr⟩:=h;obtain⟨b,c,ht,hi2⟩:=hr k hk;have O6:k < T.length:=Aaa
 have htk:T[k]=⟨l[k].f,l[k].l,.slice b l[k].ids.length c⟩:=by
  rw [List.getElem?_eq_getElem O6] at ht;exact Option.some.inj ht
 have hC:=((GR.W.toC bZ Aaa hT).set (k*3) (.int .i64 f)).set (k*3+1) (.int .i64 lo);have hf:=GR.flat_set eG 3 bZ T k ⟨f,lo,.slice b l[k].ids.length c⟩ O6;have h3:(((GR.flat eG T).set (k*3) (.int .i64 f)).set (k*3+1) (.int .i64 lo)).set (k*3+2) (.slice b l[k].ids.length c)=GR.flat eG (T.set k ⟨f,lo,.slice b l[k].ids.length c⟩):=hf;have hat:=GR.flat_at eG 3 bZ T k O6 2 Aaa;rw [htk] at hat
 have h4:((GR.flat eG T).set (k*3) (.int .i64 f)).set (k*3+1) (.int .i64 lo)=GR.flat eG (T.set k ⟨f,lo,.slice b l[k].ids.length c⟩):=by
  rw [<-h3];apply List.ext_getElem?
  intro j;by_cases hj:j=k*3+2
  .subst hj;have hlt:k*3+2 < (GR.flat eG T).length:=by rw [GR.flat_length eG 3 bZ];omega
   rw [List.getElem?_set_self (by simpa using hlt),List.getElem?_set_ne Aaa,List.getElem?_set_ne Aaa,hat];rfl
  .rw [List.getElem?_set_ne (i:=k*3+2) Aaa]
 rw [h4] at hC;have hK:aC [g] w ((w.setCell ⟨g,k*3,none⟩ (.int .i64 f)).setCell ⟨g,k*3+1,none⟩ (.int .i64 lo)):=(aC.set _).trans (aC.set _);refine⟨T.set k ⟨f,lo,.slice b l[k].ids.length c⟩,GR.C.toW bZ Aaa hC,Aci,λi hi=>?_⟩;have hi':i < l.length:=Aap
 by_cases hik:i=k
 .subst hik;refine⟨b,c,?_,?_⟩
  .rw [List.getElem?_set_self O6];simp
  .rw [List.getElem_set_self];exact hi2.keeps hK (λx hx=>by simpa using hne x (jw hi' x hx))
 .obtain⟨b',c',ht',hi3⟩:=hr i hi';refine⟨b',c',?_,?_⟩
  .rw [List.getElem?_set_ne Aaa,ht',List.getElem_set_ne Aaa]
  .rw [List.getElem_set_ne Aaa];exact hi3.keeps hK (λx hx=>by simpa using hne x (jw hi' x hx))
theorem XM {I:Nat->Nat} {l:List Sn} (hnd:(qw I l).Nodup) {i k:Nat} (hi:i < l.length) (hk:k < l.length) (hik:i≠k) (h1:0 < l[i].ids.length) (h2:0 < l[k].ids.length):I i≠I k:=by
 intro he;have hd:∀j (hj:j < l.length),l.getD j default=l[j]:=λj hj=>by rw [List.getD_eq_getElem?_getD,List.getElem?_eq_getElem hj];rfl
 have key:∀a b,a < b->b < l.length->0 < (l.getD a default).ids.length->0 < (l.getD b default).ids.length->I a≠I b:=by
  intro a b hab hb ha1 hb1 hI;unfold qw at hnd
  have e1:List.range l.length=List.range b++(List.range (l.length - b)).map (b+·):=by
   rw [<-List.range_add];congr 1
   omega
  rw [e1,List.flatMap_append,List.nodup_append] at hnd;refine hnd.2.2 (I a) ?_ (I b) ?_ hI
  .rw [List.mem_flatMap];exact⟨a,List.mem_range.2 hab,dQ ha1⟩
  .rw [List.mem_flatMap];exact⟨b,List.mem_map.2 ⟨0,List.mem_range.2 Aaa,Aac⟩,dQ hb1⟩
 rcases Nat.lt_or_gt_of_ne hik with h|h
 .exact key i k h hk (by rw [hd i hi];exact h1) (by rw [hd k hk];exact h2) he
 .exact key k i h hi (by rw [hd k hk];exact h2) (by rw [hd i hi];exact h1) he.symm
theorem fP.ids {w w':World} {a:Option Addr} {g:Nat} {I:Nat->Nat} {l:List Sn} (h:fP w a g I l) (k:Nat) (hk:k < l.length) (b:Option Addr) (c:Nat) (ids:List Int) (hb:w.cell? ⟨g,k*3+2,none⟩=some (.slice b l[k].ids.length c)) (hlen:ids.length=l[k].ids.length) (hw:GR.W aW 1 w' b (I k) ids) (hK:aC (fp (I k) l[k].ids) w w')
 (hne:∀x∈qw I l,x≠g) (hnd:(qw I l).Nodup):fP w' a g I (l.set k ⟨l[k].f,l[k].l,ids⟩):=by
 obtain⟨T,hT,hl,hr⟩:=h;have O6:k < T.length:=Aaa
 have awk:∀x∈fp (I k) l[k].ids,x∈qw I l:=jw hk
 have hT':GR.W eG 3 w' a g T:=hT.keeps hK (λx hx hx2=>by
  rw [(gH hx).1] at hx2
  exact hne _ (awk _ hx2) rfl)
 refine⟨T,hT',Aci,λi hi=>?_⟩;have hi':i < l.length:=Aap
 obtain⟨b',c',ht',hi3⟩:=hr i hi';by_cases hik:i=k
 .subst hik;obtain⟨_,_,hc⟩:=hT i O6;have h2:=(hc 2 Aaa).1;rw [List.getElem?_eq_getElem O6] at ht';rw [Option.some.inj ht'] at h2;have h2':w.cell? ⟨g,i*3+2,none⟩=some (.slice b' l[i].ids.length c'):=h2;rw [hb] at h2';injection h2' with h2'
  injection h2' with e1 e2 e3
  subst e1 e3;refine⟨b,c,?_,?_⟩
  .rw [List.getElem?_eq_getElem O6,Option.some.inj ht',List.getElem_set_self];simp[hlen]
  .rw [List.getElem_set_self];exact hw
 .refine⟨b',c',?_,?_⟩
  .rw [ht',List.getElem_set_ne Aaa]
  .rw [List.getElem_set_ne Aaa];refine hi3.keeps hK (λx hx hx2=>?_);have e1:=(gH hx).1;have e2:=(gH hx2).1;have hIk:I i=I k:=by rw [<-e1,<-e2]
   exact XM hnd hi' hk hik (gH hx).2 (gH hx2).2 hIk
theorem fP.three {w:World} {a:Option Addr} {g:Nat} {I:Nat->Nat} {l:List Sn} (h:fP w a g I l) (i:Nat) (hi:i < l.length):∃b c,a=some ⟨g,0,none⟩/\g < w.heap.size/\(w.cell? ⟨g,i*3,none⟩=some (.int .i64 l[i].f)/\w.cell? ⟨g,i*3+1,none⟩=some (.int .i64 l[i].l)/\w.cell? ⟨g,i*3+2,none⟩=some (.slice b l[i].ids.length c))/\(w.frozen? ⟨g,i*3,none⟩=false/\w.frozen? ⟨g,i*3+1,none⟩=false)/\GR.W aW 1 w b (I i) l[i].ids:=by
 obtain⟨T,hT,hl,hr⟩:=h;obtain⟨b,c,ht,hi2⟩:=hr i hi;have O6:i < T.length:=Aaa
 obtain⟨e,hg,hc⟩:=hT i O6;rw [List.getElem?_eq_getElem O6] at ht;rw [Option.some.inj ht] at hc;exact⟨b,c,e,hg,⟨by simpa using(hc 0 Aaa).1,by simpa using(hc 1 Aaa).1,by simpa using(hc 2 Aaa).1⟩,⟨by simpa using(hc 0 Aaa).2,(hc 1 Aaa).2⟩,hi2⟩
theorem fP.below {w w':World} {a:Option Addr} {g:Nat} {I:Nat->Nat} {l:List Sn} (h:fP w a g I l) (hb:aX w w'):fP w' a g I l:=h.keeps (F:=[]) (aC.of_below hb) (λ_ _=>Aac) (λ_ _=>Aac)
theorem ara {α:Type} {enc:α->List Value} {sz:Nat} {w:World} {a:Option Addr} {g:Nat} {l:List α} (h:GR.W enc sz w a g l):∀x∈fp g l,x < w.heap.size:=λx hx=>by
 rw [(gH hx).1];exact(h 0 (gH hx).2).2.1
namespace Fo
open Go.RowKit
theorem two_blocks {w w1:World} {A B:Obj} (hb:Below ((w.alloc A).alloc B).heap.size ((w.alloc A).alloc B) w1):
 w1.heap[w.heap.size]?=some A/\w1.heap[w.heap.size+1]?=some B/\w.heap.size+1 < w1.heap.size/\aX w w1:=by
 have hs:((w.alloc A).alloc B).heap.size=w.heap.size+1+1:=Aac
 have hz:=hb.size;refine⟨?_,?_,Aaa,(((Below.refl _ _).alloc (Nat.le_refl _) _).alloc Aac _).trans (hb.mono Aaa)⟩
 .rw [hb.block _ Aaa,Below.heap_alloc _ _ _ Aac];exact heap_alloc_new w A
 .rw [hb.block _ Aaa];have h:=heap_alloc_new (w.alloc A) B;rwa [show(w.alloc A).heap.size=w.heap.size+1 by simp] at h
theorem one_block {w w1:World} {A:Obj} (hb:Below (w.alloc A).heap.size (w.alloc A) w1):
 w1.heap[w.heap.size]?=some A/\w.heap.size < w1.heap.size/\aX w w1:=by
 have hs:(w.alloc A).heap.size=w.heap.size+1:=Aac
 have hz:=hb.size;refine⟨?_,Aaa,((Below.refl _ _).alloc (Nat.le_refl _) _).trans (hb.mono Aaa)⟩;rw [hb.block _ Aaa];exact heap_alloc_new w A
theorem blk_set {w:World} {c:Nat} {cs:Array Value} {t:TypeId} (h:w.heap[c]?=some (.cells cs t (0,0))) (i:Nat) (v:Value):(w.setCell ⟨c,i,none⟩ v).heap[c]?=some (.cells (cs.setIfInBounds i v) t (0,0)):=by
 exact aaO
theorem four_set {w:World} {g:Nat} {a0 a1 a2 a3 b0 b1 b2 b3:Value} {t:TypeId} (h:w.heap[g]?=some (.cells #[a0,a1,a2,a3] t (0,0))):
 ((((w.setCell ⟨g,0,none⟩ b0).setCell ⟨g,1,none⟩ b1).setCell ⟨g,2,none⟩ b2).setCell ⟨g,3,none⟩ b3).heap[g]?=some (.cells #[b0,b1,b2,b3] t (0,0)):=
 blk_set (blk_set (blk_set (blk_set h 0 b0) 1 b1) 2 b2) 3 b3
theorem four_below {a w:World} {B g:Nat} {b0 b1 b2 b3:Value} (h:Below B a w) (hg:B<=g):
 Below B a ((((w.setCell ⟨g,0,none⟩ b0).setCell ⟨g,1,none⟩ b1).setCell ⟨g,2,none⟩ b2).setCell ⟨g,3,none⟩ b3):=
 (((h.setCell (p:=⟨g,0,none⟩) hg b0).setCell (p:=⟨g,1,none⟩) hg b1).setCell (p:=⟨g,2,none⟩) hg b2).setCell (p:=⟨g,3,none⟩) hg b3
theorem one_other {w:World} {g g' i:Nat} {v:Value} {o:Option Obj} (h:w.heap[g']?=o) (hne:g'≠g):(w.setCell ⟨g,i,none⟩ v).heap[g']?=o:=by
 rw [Below.heap_setCell _ _ _ _ hne,h]
theorem bodyPost_at {P:Program} {fn:Func} {Q:Ending->World->Prop} {x:Exit} {act:Act} {W:World} (h:∀W',W'=W->bodyPost P fn Q x act W'):bodyPost P fn Q x act W:=h W rfl
theorem wp_at {P:Program} {c:Code} {Q:Exit->Act->World->Prop} {a:Act} {W:World} (h:∀W',W'=W->Code.wp P c Q a W'):Code.wp P c Q a W:=h W rfl
theorem lt_of_blk {w:World} {g:Nat} {o:Obj} (h:w.heap[g]?=some o):g < w.heap.size:=by
 exact afI
theorem setCell_size (w:World) (p:Addr) (v:Value):(w.setCell p v).heap.size=w.heap.size:=by
 unfold World.setCell;simp
end Fo
open Go.RowKit Go.Maps
namespace Mth
def nothing (p:Pu):Bool:=p.m == 0&&p.f == 0&&p.s == 0
theorem Nj (p:Pu):nothing p=true↔p.m=0/\p.f=0/\p.s=0:=by unfold nothing;simp[and_assoc]
def upd (G:ByteArray->Pu) (p:Pu):ByteArray->Pu:=λk=>if k=p.k then p else G k
end Mth
def JH:Value->Option (DataW Unit×List MemPlace)
 | .agg ⟨[.string k,.int .i64 m,.int .i64 f,.int .i64 s]⟩=>some (.agg [.lit (.string k.data.toList),.lit (.int .i64 m),.lit (.int .i64 f),.lit (.int .i64 s)],[])
 |_=>none
def yI (p:Pu):DataW Unit:= .agg [.lit (.string p.k.data.toList),.lit (.int .i64 p.m),.lit (.int .i64 p.f),.lit (.int .i64 p.s)]
theorem H7 (p:Pu):JH (zi p)=some (yI p,[]):=rfl
theorem DV {v:Value} {p:Pu} {ps:List MemPlace} (h:JH v=some (yI p,ps)):v=zi p:=by
 unfold JH at h;split at h
 .rename_i k m f s
  obtain⟨pk,pm,pf,ps⟩:=p;simp only[yI,Option.some.injEq,Prod.mk.injEq,DataW.agg.injEq,List.cons.injEq,DataW.lit.injEq,Lit.string.injEq,Lit.int.injEq,true_and,and_true] at h;obtain⟨⟨h1,h2,h3,h4⟩,_⟩:=h;subst h2 h3 h4;have e:k=pk:=ByteArray.ext (Array.toList_inj.1 h1);rw [e]
 .cases h
abbrev klit (k:ByteArray):Lit:= .string k.data.toList
theorem Cj {a b:ByteArray} (h:a≠b):klit a≠klit b:=λe=>h (by
 injection e with e
 exact ByteArray.ext (Array.toList_inj.1 e))
theorem Qi:Keyed Tryz.prog 9:=string_keyed Tryz.underlying9
theorem YL (s:ByteArray) (hs:s.size<=maxLen):keyOf Tryz.prog 9 (.string s)=some (klit s):=Go.WideMaps.keyOf_string_mk Tryz.underlying9 hs
theorem agH (w:World):(zeroValue 143).run Tryz.prog w= .ok (zi ⟨ByteArray.empty,0,0,0⟩) w:=Aab
def Z0 (D:DataW Unit) (G:ByteArray->Pu):Prop:=∀k,(G k).k=k/\Maps.has D (klit k)= !nothing (G k)/\(nothing (G k)=false->∀z,D.atKey (klit k) z=yI (G k))
def iq (w:World) (mb n:Nat) (G:ByteArray->Pu):Prop:=∃D,w.ownsMap Tryz.prog 9 JH mb n D/\Z0 D G
theorem Z0.empty:Z0 (.map []) (λk=>⟨k,0,0,0⟩):=λk=>⟨rfl,rfl,λh=>Aax⟩
theorem Z0.put {D:DataW Unit} {G:ByteArray->Pu} (h:Z0 D G) (hD:Maps.IsMap D) (p:Pu) (hp:nothing p=false):Z0 (D.put (klit p.k) (yI p)) (upd G p):=by
 intro k;unfold upd;by_cases e:k=p.k
 .rw [if_pos e,e];exact⟨rfl,by rw [has_put_same hD (show WideAt.IsKeyLit (klit p.k) from trivial),hp];rfl,λ_ z=>atKey_put_same hD (show WideAt.IsKeyLit (klit p.k) from trivial) _ z⟩
 .rw [if_neg e];obtain⟨h1,h2,h3⟩:=h k;exact⟨h1,by rw [has_put_other (Cj e),h2],λhn z=>by rw [atKey_put_other (Cj e)];exact h3 hn z⟩
theorem Z0.del {D:DataW Unit} {G:ByteArray->Pu} (h:Z0 D G) (p:Pu) (hp:nothing p=true):Z0 (D.del (klit p.k)) (upd G p):=by
 intro k;unfold upd;by_cases e:k=p.k
 .rw [if_pos e,e];exact⟨rfl,by rw [has_del_same,hp];rfl,λhn=>by rw [hp] at hn;cases hn⟩
 .rw [if_neg e];obtain⟨h1,h2,h3⟩:=h k;exact⟨h1,by rw [has_del_other (Cj e),h2],λhn z=>by rw [atKey_del_other (Cj e)];exact h3 hn z⟩
theorem iq.made (w:World):iq (w.alloc (.map #[] 0)) w.heap.size 0 (λk=>⟨k,0,0,0⟩):=⟨_,World.ownsMap_made w _ _ _,Z0.empty⟩
theorem iq.lt {w:World} {mb n:Nat} {G:ByteArray->Pu} (h:iq w mb n G):mb < w.heap.size:=h.choose_spec.1.lt
theorem iq.kept {w w':World} {mb n:Nat} {G:ByteArray->Pu} (h:iq w mb n G) (hb:w'.heap[mb]?=w.heap[mb]?):iq w' mb n G:=by
 exact aeB
theorem iq.look {w:World} {mb n:Nat} {G:ByteArray->Pu} (h:iq w mb n G) (k:ByteArray) (hk:k.size<=maxLen):
 (Instr.lookup 304 (.map (some mb)) (.string k) true).run Tryz.prog w= .ok (.tuple #[zi (if nothing (G k) then⟨ByteArray.empty,0,0,0⟩ else G k),.bool (!nothing (G k))]) w:=by
 obtain⟨D,hown,ha⟩:=h;obtain⟨v,ps,hrun,hv⟩:=hown.look_ok Qi Tryz.underlying304 (agH w) (H7 _) (YL k hk);obtain⟨_,h2,h3⟩:=ha k;rw [hrun,h2];cases hn:nothing (G k)
 .rw [h3 hn] at hv;rw [DV hv];rfl
 .rw [hn] at h2;rw [atKey_of_not_has h2] at hv;rw [DV hv];rfl
theorem nH {w w':World} {b:Nat} (h:w.mapTurned w' b):_root_.Go.Proofs.YtacgbldlonoaaaaGreatDoor.Keeps b w w':=by
 have g:=h.grown;exact⟨g.os,g.tape,g.output,g.size,λk hk hne=>g.block k hk (λe=>hne (Option.some.inj e))⟩
theorem iq.store {w:World} {mb n:Nat} {G:ByteArray->Pu} (h:iq w mb n G) (p:Pu) (hk:p.k.size<=maxLen) (hn:n < maxLen) (hp:nothing p=false):
 ∃w',(Instr.mapUpdate 304 (.map (some mb)) (.string p.k) (zi p)).run Tryz.prog w= .ok () w'/\iq w' mb (n+1) (upd G p)/\Keeps mb w w':=by
 obtain⟨D,hown,ha⟩:=h;obtain⟨w',hrun,h1,h2⟩:=hown.store Qi Tryz.underlying304 hn (YL p.k hk) (H7 p);exact⟨w',hrun,⟨_,h1,ha.put hown.isMap p hp⟩,nH h2⟩
theorem iq.drop {w:World} {mb n:Nat} {G:ByteArray->Pu} (h:iq w mb n G) (p:Pu) (hk:p.k.size<=maxLen) (hp:nothing p=true) (ty:TypeId):
 ∃w',(Builtin.delete_ #[304,9] ty #[.map (some mb),.string p.k]).run Tryz.prog w= .ok (.tuple #[]) w'/\iq w' mb n (upd G p)/\Keeps mb w w':=by
 obtain⟨D,hown,ha⟩:=h;obtain⟨w',hrun,h1,h2⟩:=hown.drop Qi Tryz.underlying304 (YL p.k hk) ty;exact⟨w',hrun,⟨_,h1,ha.del p hp⟩,nH h2⟩
namespace Mth
theorem toList_inj {a b:ByteArray} (h:a.toList=b.toList):a=b:=by
 rw [ByteArray.toList_eq,ByteArray.toList_eq] at h;exact ByteArray.ext (Array.toList_inj.1 h)
theorem oq (l:List Pu) (k:ByteArray):(aG l k).k=k:=by
 unfold aG;cases h:l.find? (λp=>p.k.toList == k.toList) with
 |none=>rfl
 |some q=>
  have:=List.find?_some h
  exact toList_inj (by simpa using this)
theorem qd {l:List Pu} (hp:l.Pairwise JB) {q:Pu} (hq:q∈l):aG l q.k=q:=by
 unfold aG
 have:l.find? (λp=>p.k.toList == q.k.toList)=some q:=by
  induction l with
  |nil=>simp at hq
  |cons x r ih=>
   rw [List.find?_cons]
   rcases List.mem_cons.1 hq with rfl|hq'
   .simp
   .have hx:x.k.toList < q.k.toList:=(List.pairwise_cons.1 hp).1 q hq'
    have hne:(x.k.toList == q.k.toList)=false:=by
     rw [beq_eq_false_iff_ne];intro e;rw [e] at hx;exact List.lt_irrefl _ hx
    rw [hne];exact ih (List.pairwise_cons.1 hp).2 hq'
 rw [this];rfl
theorem JI {l:List Pu} {k:ByteArray} (h:∀q∈l,q.k≠k):aG l k=⟨k,0,0,0⟩:=by
 unfold aG
 have:l.find? (λp=>p.k.toList == k.toList)=none:=by
  rw [List.find?_eq_none];intro q hq;simp only[beq_iff_eq];exact λe=>h q hq (toList_inj e)
 rw [this];rfl
theorem aeO {a b:ByteArray} (h:a.toList < b.toList):a≠b:=λe=>by rw [e] at h;exact List.lt_irrefl _ h
theorem abq {l:List Pu} (hp:l.Pairwise JB) (p:Pu):(iP l p).map (λq=>upd (aG l) p q.k)=iP l p:=by
 have:∀q∈iP l p,upd (aG l) p q.k=q:=by
  intro q hq;unfold iP at hq;unfold upd;rcases List.mem_append.1 hq with hq|hq
  .rw [if_neg (aeO (xW hq))];exact qd hp ((List.takeWhile_sublist _).mem hq)
  .rcases List.mem_cons.1 hq with rfl|hq
   .rw [if_pos rfl]
   .rw [if_neg (Ne.symm (aeO (Kj hp q hq)))];exact qd hp ((List.dropWhile_sublist _).mem (Eo l p.k q hq))
 exact(List.map_congr_left (g:=id) this).trans (List.map_id _)
def place (l:List Pu) (k:ByteArray):Nat:=(qJ l k).length
theorem lG (l:List Pu) (k:ByteArray):place l k<=l.length:=by
 have h:=congrArg List.length (uY l k);rw [List.length_append] at h;unfold place;omega
theorem head_take (l:List Pu) (k:ByteArray):qJ l k=l.take (place l k):=by
 have h:=uY l k;have:(qJ l k++kD l k).take (place l k)=qJ l k:=by unfold place;simp
 rw [h] at this;exact this.symm
theorem jh (l:List Pu) (k:ByteArray):kD l k=l.drop (place l k):=by
 have h:=uY l k;have:(qJ l k++kD l k).drop (place l k)=kD l k:=by unfold place;simp
 rw [h] at this;exact this.symm
def found (l:List Pu) (k:ByteArray):Bool:=match kD l k with
 |[]=>false
 |q::_=>q.k.toList == k.toList
theorem uJ {l:List Pu} {p:Pu} (h:found l p.k=true):(iP l p).map (·.k)=l.map (·.k):=by
 have hl:=uY l p.k;unfold found at h;unfold iP jY;cases hf:kD l p.k with
 |nil=>rw [hf] at h;cases h
 |cons q r=>
  rw [hf] at h hl
  dsimp only at h ⊢
  rw [if_pos h]
  rw [<-hl]
  have e:q.k=p.k:=toList_inj Abi
  simp[qJ,e]
  rw [show List.takeWhile (λq=>Op.bytesLess q.k.toList p.k.toList) l=qJ l p.k from rfl,hl]
  rfl
theorem qQ {l:List Pu} {p:Pu} (h:found l p.k=true):(iP l p).length=l.length:=by
 have:=congrArg List.length (uJ h);simpa using this
theorem vW {l:List Pu} {p:Pu} (h:found l p.k=false):iP l p=l.take (place l p.k)++p::l.drop (place l p.k):=by
 unfold iP;rw [head_take,<-jh];congr 2
 unfold found at h;unfold jY;cases hf:kD l p.k with
 |nil=>rfl
 |cons q r=>
  rw [hf] at h
  dsimp only at h ⊢
  rw [h]
  rfl
theorem uK {l:List Pu} {p:Pu} (h:found l p.k=false):(iP l p).length=l.length+1:=by
 rw [vW h];have:=lG l p.k;simp;omega
def uz (l:List Pu) (k:ByteArray) (t:Nat):ByteArray:=(l[t]?).elim k (·.k)
theorem XE {l:List Pu} (hp:l.Pairwise JB) (k:ByteArray):Lib.bsGo (λt=>Op.bytesLess (uz l k t).toList k.toList) l.length 0 l.length=place l k:=by
 refine Lib.bsGo_spec _ (place l k) ?_ ?_ _ _ _ Aaa (Nat.zero_le _) (lG l k)
 .intro t ht;have ht2:t < l.length:=Nat.lt_of_lt_of_le ht (lG l k)
  have hm:l[t]∈qJ l k:=by
   rw [head_take];exact List.mem_take_iff_getElem.2 ⟨t,Aaa,rfl⟩
  unfold uz;rw [List.getElem?_eq_getElem ht2];exact(oH _ _).2 (xW hm)
 .intro t ht;by_cases ht2:t < l.length
  .unfold uz;rw [List.getElem?_eq_getElem ht2];show Op.bytesLess l[t].k.toList k.toList=false
   rw [Bool.eq_false_iff];intro hlt;have hlt':=(oH _ _).1 hlt;have hp0:place l k < l.length:=Aaa
   have hf:kD l k=l[place l k]::l.drop (place l k+1):=by rw [jh,List.drop_eq_getElem_cons hp0]
   have h1:=zL l k _ _ hf;rcases Nat.lt_or_ge (place l k) t with h|h
   .have h2:l[place l k].k.toList < l[t].k.toList:=List.pairwise_iff_getElem.1 hp _ _ hp0 ht2 h;exact h1 (List.lt_trans h2 hlt')
   .have e:t=place l k:=Aaa
    subst e;exact h1 hlt'
  .unfold uz;rw [List.getElem?_eq_none Aaa];show Op.bytesLess k.toList k.toList=false
   rw [Bool.eq_false_iff];intro h;exact List.lt_irrefl _ ((oH _ _).1 h)
theorem LH (l:List Pu) (k:ByteArray):decide (place l k < l.length/\uz l k (place l k)=k)=found l k:=by
 by_cases h:place l k < l.length
 .have hf:kD l k=l[place l k]::l.drop (place l k+1):=by rw [jh,List.drop_eq_getElem_cons h]
  have hfo:found l k=(l[place l k].k.toList == k.toList):=by unfold found;rw [hf]
  have hka:uz l k (place l k)=l[place l k].k:=by unfold uz;rw [List.getElem?_eq_getElem h];rfl
  rw [hfo,Bool.eq_iff_iff,decide_eq_true_iff,beq_iff_eq,hka];exact⟨λe=>by rw [e.2],λe=>⟨h,toList_inj e⟩⟩
 .have hf:kD l k=[]:=by rw [jh];exact List.drop_eq_nil_of_le Aaa
  unfold found;rw [hf];exact decide_eq_false λe=>h e.1
end Mth
namespace Mth
def eD (p:Pu) (dm df ds n:Int):Pu:=⟨p.k,p.m+dm*n,p.f+df*n,p.s+ds*n⟩
end Mth
set_option maxRecDepth 100000
theorem Dt (p:Pu) (w:World) (hk:p.k.size<=1048576):Calls Tryz.prog 160 #[zi p] w (eP w (zi p)):=by
 obtain⟨pk,pm,pf,ps⟩:=p;have HC:=Hq (λw1=>clone pk w1 (by dsimp only at hk;omega));clear hk;go_enter Tryz.func160,Tryz.ntmps160
 go_wp2_with fail;refine(HC _).mono ?_;rintro e w1 ⟨rfl,hb1⟩;obtain⟨hA,hB,hz,hbel⟩:=Fo.two_blocks hb1;have HB:=Hq hB;have fO:=Hq hbel;obtain⟨⟨p0,p1,p2,p3⟩,q0,q1,q2,q3⟩:=fJ hA;obtain⟨⟨r0,r1,r2,r3⟩,s0,s1,s2,s3⟩:=fJ hB;clear hb1 hA hB hbel;go_wp2_with fail;clear r0 r1 r2 r3;refine Fo.bodyPost_at (λW' hW'=>?_);obtain⟨⟨r0,r1,r2,r3⟩,_⟩:=fJ (show W'.heap[w.heap.size+1]?=some (.cells (iL pk pm pf ps) 143 (0,0)) by rw [hW'];exact Fo.four_set (Fo.one_other HB Aaa));have hbb:aX w W':=by rw [hW'];exact Fo.four_below (fO.setCell (p:=⟨w.heap.size,0,none⟩) (Nat.le_refl _) _) Aaa
 refine bodyPost_ret (v:= .agg (iL pk pm pf ps)) (by simp[results,Tryz.results160,go_sem,r0,r1,r2,r3]) rfl ⟨rfl,hbb⟩
theorem MH (a:Option Addr) (cap:Nat) (l:List Pu) (key:ByteArray) (w:World) (hl:l.length<=1048600) (hks:∀p∈l,p.k.size<=1048576) (hkey:key.size<=1048576) (ha:aH w a l):
 Calls Tryz.prog 136 #[.slice a l.length cap,.string key] w (eP w (zi (aG l key))):=by
 have HA:=Hq ha;have Vj:=Hq hks;have jO:=Hq (λw1=>clone key w1 Aaa);clear ha hks;go_enter Tryz.func136,Tryz.ntmps136
 go_wp2_with fail;go_loopw [9] (λi wr=>∃k:Nat,k<=l.length/\i= .int .i64 k/\(l.take k).find? (λp=>p.k.toList == key.toList)=none/\aX w wr/\wr.heap[w.heap.size]?=some (.cells (iL ⟨#[]⟩ 0 0 0) 143 (0,0))) (λi _=>l.length - (intOf i).toNat)
 case atStart=>exact⟨0,Nat.zero_le _,rfl,rfl,dM w _,heap_alloc_new w _⟩
 case round=>
  obtain⟨k,hk,rfl,hnone,hbel,hblk⟩:=hrel;have HN:=Hq hnone;have fO:=Hq hbel;have Ey:=Hq hblk;have aa5:=Fo.lt_of_blk hblk;clear hnone hbel hblk;by_cases hlt:k < l.length
  .obtain⟨g,off,rfl,hgw,c0,c1,c2,c3⟩:=aH.four (GR.At.below HA fO) k hlt;have hfs:=GN (λp=>p.k.toList == key.toList) l k hlt HN;have hkk:=ah Vj l[k] (List.getElem_mem hlt);cases hf:l[k].k.toList == key.toList
   .have HX:=Hq (hfs.2 hf);clear hfs HN hkk;open aqz in exact Xc
   .have HX:=Hq (show aG l key=l[k] by unfold aG;rw [hfs.1 hf];rfl);clear hfs HN;open aqm in exact adw
  .open ako in exact IX
theorem LQ (a:Option Addr) (cap:Nat) (l:List Pu) (w:World) (hl:l.length<=1048600) (ha:aH w a l):
 Calls Tryz.prog 159 #[.slice a l.length cap] w λe w'=>∃v,e= .returned v/\w'.ownsRow w.heap.size 143 4 v l.length (GR.flat fE l)/\aX w w':=by
 obtain⟨i0,hi,hz0,hz1,hz2⟩:=info_parts Du;have q22:∀(w:World) (a:Option Addr) (n c n' c':Nat),(binOp .eql 25 (.slice a n c) (.slice none n' c')).run Tryz.prog w= .ok (.bool a.isNone) w:=λw a n c n' c'=>Lib.run_eql_slice_nil w _ _ a n c n' c' Tryz.underlying25
 open aqc in exact adr
theorem vK.of_own {w:World} {B:Nat} {v:Value} {l:List Pu} (h:w.ownsRow B 143 4 v l.length (GR.flat fE l)) (hB:B<=w.heap.size):∃a c g,v= .slice a l.length c/\B<=g/\vK w a g l:=by
 obtain⟨a,c,rfl,hat⟩:=GR.own_at aZ h;rcases h.2 with⟨hv,hn⟩|⟨g,cap,cur,hv,hg,hblk,_⟩
 .have hl:l=[]:=List.eq_nil_of_length_eq_zero hn;subst hl;exact⟨_,_,w.heap.size,rfl,hB,vK.nil⟩
 .cases hv
  refine⟨_,_,g,rfl,hg,λi hi=>?_⟩;exact as6
theorem Mt (a:Option Addr) (cap:Nat) (l:List Pu) (w:World) (hl:l.length<=1048576) (hks:∀p∈l,p.k.size<=1048576) (ha:aH w a l):
 Calls Tryz.prog 100 #[.slice a l.length cap] w λe w'=>∃a' c' g,w.heap.size<=g/\e= .returned (.slice a' l.length c')/\vK w' a' g l/\aX w w':=by
 have jO:=Hq (LQ a cap l w Aaa ha);have Vj:=Hq hks;clear ha hks;go_enter Tryz.func100,Tryz.ntmps100
 go_wp2_with fail;refine jO.mono ?_;rintro e w1 ⟨v,rfl,hown,hb1⟩;obtain⟨a',c',g,rfl,hg,hW⟩:=vK.of_own hown hb1.size;have HW:=Hq hW;have HB1:=Hq hb1;clear hown hb1 hW jO;go_wp2_with fail;go_loopw [10] (λi wr=>∃k:Nat,k<=l.length/\i= .int .i64 k/\vK wr a' g l/\aX w wr) (λi _=>l.length - (intOf i).toNat)
 case atStart=>exact⟨0,Nat.zero_le _,rfl,HW,HB1⟩
 case round=>
  obtain⟨k,hk,rfl,hB,hbel⟩:=hrel;have HB:=Hq hB;have fO:=Hq hbel;clear hB hbel;by_cases hlt:k < l.length
  .obtain⟨e0,hgw,⟨q0,q1,q2,q3⟩,_⟩:=vK.four HB k hlt;subst e0;have hkk:=ah Vj l[k] (List.getElem_mem hlt);have hse:l.set k l[k]=l:=List.set_getElem_self hlt;have HSE:=Hq hse;clear hse;open aqn in exact adw
  .open akp in exact IX
theorem og (p:Pu) (b:Bool) (w:World) (h:gJ p=b):Calls Tryz.prog 129 #[zi p] w (eP w (.bool b)):=by
 rw [<-h];exact Yz p w
theorem Nf (a b:ByteArray):Op.bytesLess b.toList a.toList= !sle a b:=by
 cases h:sle a b
 .exact(oH _ _).2 ((mU a b).1 h)
 .cases h2:Op.bytesLess b.toList a.toList
  .rfl
  .rw [(mU a b).2 ((oH _ _).1 h2)] at h;cases h
theorem rU (a:Option Addr) (cap:Nat) (l:List Pu) (w:World) (hl:l.length<=1048600) (ha:aH w a l):
 Calls Tryz.prog 53 #[.slice a l.length cap] w (eP w (.bool (iW l))):=by
 by_cases h20:l.length<=20
 .have HA:=Hq ha;clear ha;have awl:decide (20 < (l.length:Int))=false:=decide_eq_false Aaa;go_enter Tryz.func53,Tryz.ntmps53
  go_wp2_with fail;go_loopw [10] (λi wr=>∃k:Nat,k<=l.length/\i= .int .i64 k/\(List.range k).all (jT l)=true/\aX w wr) (λi _=>l.length - (intOf i).toNat)
  case atStart=>exact Xx
  case round=>
   obtain⟨k,hk,rfl,hall,hbel⟩:=hrel;have fO:=Hq hbel;have mV:=Hq hall;clear hall hbel;by_cases hlt:k < l.length
   .open ajF in exact arF
   .exact asL
 .have HF:=Hq (show iW l=false by unfold iW;simp[h20]);have awl:decide (20 < (l.length:Int))=true:=decide_eq_true Aaa;clear ha;go_enter Tryz.func53,Tryz.ntmps53
  go_wp2_with fail;go_ret;exact⟨aD HF.symm,Below.refl _ _⟩
theorem Uf (a:Option Addr) (cap:Nat) (l:List Int) (x:Int) (w:World) (hl:l.length<=1048600) (ha:eu w a l):
 Calls Tryz.prog 229 #[.slice a l.length cap,.int .i64 x] w λe w'=>(∃i:Int,e= .returned (.int .i64 i)/\decide (0<=i)=hasB l x)/\w=w':=by
 have HA:=Hq ha;clear ha;go_enter Tryz.func229,Tryz.ntmps229
 go_wp2_with fail;go_loop [8] (λi=>∃k:Nat,k<=l.length/\i= .int .i64 k/\hasB (l.take k) x=false) (λi=>l.length - (intOf i).toNat)
 case atStart=>exact⟨0,Nat.zero_le _,rfl,rfl⟩
 case round=>
  obtain⟨k,hk,rfl,hno⟩:=hrel;have HN:=Hq hno;clear hno;by_cases hlt:k < l.length
  .obtain⟨g,off,rfl,hgw,q0⟩:=eu.one HA k hlt;by_cases hx:l[k]=x
   .have HY:=Hq (has_yes l x k hlt hx);rw [hx] at q0;clear hx;go_wp2_with fail;go_ret;exact⟨⟨k,rfl,by rw [ah HY];simp⟩,rfl⟩
   .have HS:=Hq (has_snoc l x k hlt);rw [decide_eq_false hx] at HS;have hx':¬(x=l[k]):=λh=>hx h.symm
    exact as7
  .open akq in exact IX
theorem Jp (a:Option Addr) (cap:Nat) (l:List Int) (x:Int) (w:World) (hl:l.length<=1048600) (ha:eu w a l):
 Calls Tryz.prog 192 #[.slice a l.length cap,.int .i64 x] w λe w'=>e= .returned (.bool (hasB l x))/\w=w':=by
 have HI:=Hq (Uf a cap l x w hl ha);clear ha;go_enter Tryz.func192,Tryz.ntmps192
 go_wp2_with fail;refine HI.mono ?_;rintro e w1 ⟨⟨i,rfl,hi⟩,rfl⟩;have HD:=Hq hi;clear hi;go_wp2_with fail;go_ret;exact⟨aD HD,rfl⟩
theorem zT (n:Nd) (A:bH) (x:Int) (w:World) (hl:n.kids.length<=1048600) (ha:eu w A.k n.kids):
 Calls Tryz.prog 169 #[fI n A,.int .i64 x] w (eP w (.bool (hasB n.kids x))):=by
 have HH:=Hq (Jp A.k A.ck n.kids x (w.alloc (.cells (dH n A) 30)) hl (GR.At.below ha (aj w _)));clear ha;go_enter Tryz.func169,Tryz.ntmps169
 go_wp2_with (go_at_call 192;refine HH.mono ?_;rintro e w1 ⟨rfl,rfl⟩)
 go_ret;exact⟨rfl,aj w _⟩
def Mth.nearI (n:Nd) (x:Int):Bool:=rF x&&(decide (x=n.par)||hasB n.kids x)
theorem Mth.near_same {n:Nd} (h:dZ n=true) (x:Int):nearI n x=dV n x:=by
 obtain⟨h1,_,h3⟩:=oI h
 have hp:n.par<=29:=by
  unfold dZ at h;simp only[Bool.and_eq_true] at h;exact(of_decide_eq_true h.1.1.1.2).2
 unfold nearI dV;cases hh:hasB n.kids x
 .simp only[Bool.or_false];by_cases hx:x=n.par
  .by_cases h0:0<=x
   .simp[rF,hx];omega
   .simp[rF,hx];omega
  .simp[hx]
 .have h2:=h1 x ((xU _ _).1 hh);unfold jo at h2;simp only[Bool.and_eq_true] at h2;rw [h2.1.1];simp
theorem MC (n:Nd) (A:bH) (x:Int) (w:World) (hl:n.kids.length<=1048600) (ha:eu w A.k n.kids):
 Calls Tryz.prog 130 #[fI n A,.int .i64 x] w (eP w (.bool (nearI n x))):=by
 have HK:=Hq (zT n A x (w.alloc (.cells (dH n A) 30)) hl (GR.At.below ha (aj w _)));clear ha;cases h0:rF x
 .have HN:=Hq (show nearI n x=false by simp[nearI,h0]);have HA:=Hq (λw1=>isNode x false w1 h0);clear h0;exact ad6
 .have HA:=Hq (λw1=>isNode x true w1 h0);by_cases h1:x=n.par
  .have HN:=Hq (show nearI n x=true by unfold nearI;rw [h0,decide_eq_true h1];rfl);have h2:(x == n.par)=true:=Abd
   clear h1 h0;exact ad6
  .have HN:=Hq (show nearI n x=hasB n.kids x by simp[nearI,h1,h0]);have h2:(x == n.par)=false:=Abd
   clear h1 h0;go_enter Tryz.func130,Tryz.ntmps130
   go_wp2_with (first|(go_at_call 128;refine(HA _).mono ?_;rintro e w1 ⟨rfl,rfl⟩)|(go_at_call 169;refine HK.mono ?_;rintro e w2 ⟨rfl,hb2⟩))
   go_ret;exact⟨aD HN.symm,(aj w _).trans (hb2.mono Aac)⟩
theorem ME (p:Pu) (w:World):Calls Tryz.prog 269 #[zi p] w (eP w (.bool (nothing p))):=by
 obtain⟨pk,pm,pf,ps⟩:=p;go_enter Tryz.func269,Tryz.ntmps269
 go_wp2
 all_goals
  go_ret
  exact⟨by simp[nothing, *],dM w _⟩
theorem lM {w:World} {g:Nat} {a0 a1:Value} {t:TypeId} (h:w.heap[g]?=some (.cells #[a0,a1] t (0,0))):
 (w.cell? ⟨g,0,none⟩=some a0/\w.cell? ⟨g,1,none⟩=some a1)/\(w.frozen? ⟨g,0,none⟩=false/\w.frozen? ⟨g,1,none⟩=false):=by
 have hc:∀i,w.cell? ⟨g,i,none⟩=#[a0,a1][i]?:=λi=>cell_of_row w g i _ t (0,0) h
 have hf:∀i,w.frozen? ⟨g,i,none⟩=false:=λi=>by unfold World.frozen?;rw [h];simp
 exact⟨⟨hc 0,hc 1⟩,hf 0,hf 1⟩
theorem iq.mono {w:World} {mb n n':Nat} {G:ByteArray->Pu} (h:iq w mb n G) (hn:n<=n'):iq w mb n' G:=by
 obtain⟨D,h1,h2⟩:=h;exact⟨D,h1.mono hn,h2⟩
theorem RJ (mp mb n:Nat) (v:Value) (G:ByteArray->Pu) (p:Pu) (w:World) (hk:p.k.size<=1048576) (hn:n < maxLen) (hm:w.heap[mp]?=some (.cells #[v,.map (some mb)] 306 (0,0))) (hM:iq w mb n G):
 Calls Tryz.prog 259 #[.pointer (some ⟨mp,0,none⟩),zi p] w λe w'=>e= .returned (.tuple #[])/\iq w' mb (n+1) (upd G p)/\Keeps mb w w':=by
 have HN:=Hq (λw1=>ME p w1);have HM:=Hq hm;have HI:=Hq hM;have hkm:p.k.size<=maxLen:=Aah
 have hmp:=Fo.lt_of_blk hm;have hmb:=hM.lt;cases hno:nothing p
 .obtain⟨pk,pm,pf,ps⟩:=p;have HST:=Hq (λw1 h=>iq.store (w:=w1) (mb:=mb) (n:=n) (G:=G) h ⟨pk,pm,pf,ps⟩ hkm hn hno);open alA in exact ar3
 .obtain⟨pk,pm,pf,ps⟩:=p;have HST:=Hq (λw1 ty h=>iq.drop (w:=w1) (mb:=mb) (n:=n) (G:=G) h ⟨pk,pm,pf,ps⟩ hkm hno ty);open alz in exact ar3
theorem Jq (mp mb n:Nat) (v:Value) (G:ByteArray->Pu) (k:ByteArray) (w:World) (hk:k.size<=1048576) (hm:w.heap[mp]?=some (.cells #[v,.map (some mb)] 306 (0,0))) (hM:iq w mb n G):
 Calls Tryz.prog 260 #[.pointer (some ⟨mp,0,none⟩),.string k] w (eP w (zi (G k))):=by
 have hmp:=Fo.lt_of_blk hm;have hmb:=hM.lt;obtain⟨⟨m0,m1⟩,_⟩:=lM hm;have hGk:=(hM.choose_spec.2 k).1;have hrun:=(iq.kept (w':=w.alloc (.cells (iL ⟨#[]⟩ 0 0 0) 143)) hM (by rw [Below.heap_alloc _ _ _ hmb])).look k Aah;clear hm hM;cases hno:nothing (G k)
 .rw [hno] at hrun;generalize G k=p at *;obtain⟨pk,pm,pf,ps⟩:=p;dsimp only at hGk;subst hGk;simp only[Bool.not_false,if_neg Bool.false_ne_true] at hrun;go_enter Tryz.func260,Tryz.ntmps260
  go_wp2_with fail;exact bodyPost_ret (v:= .agg (iL pk pm pf ps)) (by simp[results,Tryz.results260,go_sem]) rfl ⟨rfl,((Below.refl _ _).alloc (Nat.le_refl _) _).alloc Aac _⟩
 .have hG0:G k=⟨k,0,0,0⟩:=by
   obtain⟨h1,h2,h3⟩:=(Nj _).1 hno;generalize G k=p at *;obtain⟨pk,pm,pf,ps⟩:=p;dsimp only at hGk h1 h2 h3;rw [hGk,h1,h2,h3]
  rw [hno] at hrun;rw [hG0];clear hno hG0 hGk;simp only[Bool.not_true,if_pos] at hrun;go_enter Tryz.func260,Tryz.ntmps260
  go_wp2_with fail;exact bodyPost_ret (v:= .agg (iL k 0 0 0)) (by simp[results,Tryz.results260,go_sem]) rfl ⟨rfl,((Below.refl _ _).alloc (Nat.le_refl _) _).alloc Aac _⟩
end Go.Proofs.YtacgbldlonoaaaaGreatDoor
