/- Parts. -/
import Derived.Test.YtohmklmkjmlpjaaGreatDoorRc11
namespace Go.Proofs.YtohmklmkjmlpjaaGreatDoor
open Go.Proofs.Tryz
set_option maxHeartbeats 4000000
open Mth
variable (l:List Pu) (k:ByteArray) {w w1 W w':World} {G:ByteArray->Pu} {mb n g:Nat} {p q:Pu} {key a b:ByteArray} {dm df ds:Int} {t:TypeId} {A:Obj} {a0 a1 v:Value} {P:Program} {D:DataW Unit}
namespace Fo
open Go.RowKit
theorem two_blocks {B:Obj} (hb:Below ((w.alloc A).alloc B).heap.size ((w.alloc A).alloc B) w1):
 w1.heap[w.heap.size]?=some A/\w1.heap[w.heap.size+1]?=some B/\w.heap.size+1 < w1.heap.size/\aI w w1:=by
 have hs:((w.alloc A).alloc B).heap.size=w.heap.size+1+1:=Aac
 have hz:=hb.size;refine⟨?_,?_,Aaa,(((aGs _ _).alloc (aGh _) _).alloc Aac _).trans (hb.mono Aaa)⟩
 .rw [hb.block _ Aaa,aGv _ _ _ Aac];exact aGg w A
 .rw [hb.block _ Aaa];have h:=aGg (w.alloc A) B;rwa [show(w.alloc A).heap.size=w.heap.size+1 by simp] at h
theorem one_block (hb:Below (w.alloc A).heap.size (w.alloc A) w1):
 w1.heap[w.heap.size]?=some A/\w.heap.size < w1.heap.size/\aI w w1:=by
 have hs:(w.alloc A).heap.size=w.heap.size+1:=Aac
 have hz:=hb.size;refine⟨?_,Aaa,((aGs _ _).alloc (aGh _) _).trans (hb.mono Aaa)⟩;rw [hb.block _ Aaa];exact aGg w A
theorem blk_set {c:Nat} {cs:Array Value} (h:w.heap[c]?=some (.cells cs t (0,0))) (i:Nat) (v:Value):(w.setCell ⟨c,i,none⟩ v).heap[c]?=some (.cells (cs.setIfInBounds i v) t (0,0)):=by
 exact Ww
theorem four_set {a2 a3 b0 b1 b2 b3:Value} (h:w.heap[g]?=some (.cells #[a0,a1,a2,a3] t (0,0))):
 ((((w.setCell ⟨g,0,none⟩ b0).setCell ⟨g,1,none⟩ b1).setCell ⟨g,2,none⟩ b2).setCell ⟨g,3,none⟩ b3).heap[g]?=some (.cells #[b0,b1,b2,b3] t (0,0)):=
 blk_set (blk_set (blk_set (blk_set h 0 b0) 1 b1) 2 b2) 3 b3
theorem four_below {a:World} {B:Nat} {b0 b1 b2 b3:Value} (h:Below B a w) (hg:B<=g):
 Below B a ((((w.setCell ⟨g,0,none⟩ b0).setCell ⟨g,1,none⟩ b1).setCell ⟨g,2,none⟩ b2).setCell ⟨g,3,none⟩ b3):=
 (((h.setCell (p:=⟨g,0,none⟩) hg b0).setCell (p:=⟨g,1,none⟩) hg b1).setCell (p:=⟨g,2,none⟩) hg b2).setCell (p:=⟨g,3,none⟩) hg b3
theorem one_other {g' i:Nat} {o:Option Obj} (h:w.heap[g']?=o) (hne:g'≠g):(w.setCell ⟨g,i,none⟩ v).heap[g']?=o:=by
 rw [aGx _ _ _ _ hne,h]
theorem bodyPost_at {fn:Func} {Q:Ending->World->Prop} {x:Exit} {act:Act} (h:∀W',W'=W->bodyPost P fn Q x act W'):bodyPost P fn Q x act W:=h W rfl
theorem wp_at {c:Code} {Q:Exit->Act->World->Prop} {a:Act} (h:∀W',W'=W->Code.wp P c Q a W'):Code.wp P c Q a W:=h W rfl
theorem lt_of_blk {o:Obj} (h:w.heap[g]?=some o):g < w.heap.size:=by
 exact abg
theorem setCell_size (w:World) (p:Addr) (v:Value):(w.setCell p v).heap.size=w.heap.size:=by
 unfold World.setCell;simp
end Fo
set_option maxRecDepth 100000
open Go.RowKit
open Mth
theorem FT (p:Pu) (w:World) (hk:p.k.size<=1048576):Calls Tryz.prog 154 #[xW p] w (dZ w (xW p)):=by
 obtain⟨pk,pm,pf,ps⟩:=p;have HC:=Hq (λw1=>clone pk w1 (by dsimp only at hk;omega));clear hk;go_in
 go_wp2_with fail;refine(HC _).mono ?_;rintro e w1 ⟨rfl,hb1⟩;obtain⟨hA,hB,hz,hbel⟩:=Fo.two_blocks hb1;have HB:=Hq hB;have dS:=Hq hbel;obtain⟨⟨p0,p1,p2,p3⟩,q0,q1,q2,q3⟩:=gu hA;obtain⟨⟨r0,r1,r2,r3⟩,s0,s1,s2,s3⟩:=gu hB;clear hb1 hA hB hbel;go_wp2_with fail;clear r0 r1 r2 r3;refine Fo.bodyPost_at (λW' hW'=>?_);obtain⟨⟨r0,r1,r2,r3⟩,_⟩:=gu (show W'.heap[w.heap.size+1]?=some (.cells (jh pk pm pf ps) 108 (0,0)) by rw [hW'];exact Fo.four_set (Fo.one_other HB Aaa));have hbb:aI w W':=by rw [hW'];exact Fo.four_below (dS.setCell (p:=⟨w.heap.size,0,none⟩) (aGh _) _) Aaa
 refine aGn (v:= .agg (jh pk pm pf ps)) (by simp[results,Tryz.results154,go_sem,r0,r1,r2,r3]) rfl ⟨rfl,hbb⟩
theorem Qi (a:Option Addr) (cap:Nat) (l:List Pu) (key:ByteArray) (w:World) (hl:l.length<=1048600) (hks:∀p∈l,p.k.size<=1048576) (hkey:key.size<=1048576) (ha:aH w a l):
 Calls Tryz.prog 240 #[.slice a l.length cap,.string key] w (dZ w (xW (aD l key))):=by
 have HA:=Hq ha;have SI:=Hq hks;have jR:=Hq (λw1=>clone key w1 Aaa);clear ha hks;go_in
 go_wp2_with fail;go_loopw [9] (λi wr=>∃k:Nat,k<=l.length/\i= .int .i64 k/\(l.take k).find? (λp=>p.k.toList == key.toList)=none/\aI w wr/\wr.heap[w.heap.size]?=some (.cells (jh ⟨#[]⟩ 0 0 0) 108 (0,0))) (λi _=>l.length - (intOf i).toNat)
 case atStart=>exact⟨0,aGB _,rfl,rfl,dY w _,aGg w _⟩
 case round=>
  obtain⟨k,hk,rfl,hnone,hbel,hblk⟩:=hrel;have HN:=Hq hnone;have dS:=Hq hbel;have Hu:=Hq hblk;have afv:=Fo.lt_of_blk hblk;clear hnone hbel hblk;by_cases hlt:k < l.length
  .obtain⟨g,off,rfl,hgw,c0,c1,c2,c3⟩:=aH.four (GR.At.below HA dS) k hlt;have hfs:=J6 (λp=>p.k.toList == key.toList) l k hlt HN;have hkk:=ah SI l[k] (aGz hlt);cases hf:l[k].k.toList == key.toList
   .have HX:=Hq (hfs.2 hf);clear hfs HN hkk;open axL in exact aa3
   .have HX:=Hq (show aD l key=l[k] by unfold aD;rw [hfs.1 hf];rfl);clear hfs HN;open axf in exact ahV
  .open aoa in exact vT
theorem qp (p:Pu) (b:Bool) (w:World) (h:iI p=b):Calls Tryz.prog 202 #[xW p] w (dZ w (.bool b)):=by
 rw [<-h];exact acQ p w
theorem Qx (a b:ByteArray):Op.bytesLess b.toList a.toList= !sle a b:=by
 cases h:sle a b
 .exact(qJ _ _).2 ((nY a b).1 h)
 .cases h2:Op.bytesLess b.toList a.toList
  .rfl
  .rw [(nY a b).2 ((qJ _ _).1 h2)] at h;cases h
theorem uQ (a:Option Addr) (cap:Nat) (l:List Pu) (w:World) (hl:l.length<=1048600) (ha:aH w a l):
 Calls Tryz.prog 168 #[.slice a l.length cap] w (dZ w (.bool (jD l))):=by
 by_cases h20:l.length<=20
 .have HA:=Hq ha;clear ha;have alx:decide (20 < (l.length:Int))=false:=aGi Aaa;go_in
  go_wp2_with fail;go_loopw [10] (λi wr=>∃k:Nat,k<=l.length/\i= .int .i64 k/\(List.range k).all (oC l)=true/\aI w wr) (λi _=>l.length - (intOf i).toNat)
  case atStart=>exact aby
  case round=>
   obtain⟨k,hk,rfl,hall,hbel⟩:=hrel;have dS:=Hq hbel;have jG:=Hq hall;clear hall hbel;by_cases hlt:k < l.length
   .open aqY in exact ayI
   .exact aij
 .have HF:=Hq (show jD l=false by unfold jD;simp[h20]);have alx:decide (20 < (l.length:Int))=true:=aGk Aaa;clear ha;go_in
  go_wp2_with fail;go_ret;exact⟨aF HF.symm,aGs _ _⟩
open Go.RowKit Go.Maps
namespace Mth
def nothing (p:Pu):Bool:=p.m == 0&&p.f == 0&&p.s == 0
theorem QE (p:Pu):nothing p=true↔p.m=0/\p.f=0/\p.s=0:=by unfold nothing;simp[and_assoc]
def upd (G:ByteArray->Pu) (p:Pu):ByteArray->Pu:=λk=>if k=p.k then p else G k
end Mth
def Nl:Value->Option (DataW Unit×List MemPlace)
 | .agg ⟨[.string k,.int .i64 m,.int .i64 f,.int .i64 s]⟩=>some (.agg [.lit (.string k.data.toList),.lit (.int .i64 m),.lit (.int .i64 f),.lit (.int .i64 s)],[])
 |_=>none
def AP (p:Pu):DataW Unit:= .agg [.lit (.string p.k.data.toList),.lit (.int .i64 p.m),.lit (.int .i64 p.f),.lit (.int .i64 p.s)]
theorem KI (p:Pu):Nl (xW p)=some (AP p,[]):=rfl
theorem Gf {ps:List MemPlace} (h:Nl v=some (AP p,ps)):v=xW p:=by
 unfold Nl at h;split at h
 .rename_i k m f s
  obtain⟨pk,pm,pf,ps⟩:=p;simp only[AP,aHM,Prod.mk.injEq,DataW.agg.injEq,List.cons.injEq,DataW.lit.injEq,Lit.string.injEq,Lit.int.injEq,true_and,and_true] at h;obtain⟨⟨h1,h2,h3,h4⟩,_⟩:=h;subst h2 h3 h4;have e:k=pk:=aHE (Array.toList_inj.1 h1);rw [e]
 .cases h
abbrev klit (k:ByteArray):Lit:= .string k.data.toList
theorem Es (h:a≠b):klit a≠klit b:=λe=>h (by
 injection e with e
 exact aHE (Array.toList_inj.1 e))
theorem UA:Keyed Tryz.prog 9:=string_keyed Tryz.underlying9
theorem ac0 (s:ByteArray) (hs:s.size<=maxLen):keyOf Tryz.prog 9 (.string s)=some (klit s):=Go.WideMaps.keyOf_string_mk Tryz.underlying9 hs
theorem amx (w:World):(zeroValue 108).run Tryz.prog w= .ok (xW ⟨ByteArray.empty,0,0,0⟩) w:=Aab
def Agr (D:DataW Unit) (G:ByteArray->Pu):Prop:=∀k,(G k).k=k/\Maps.has D (klit k)= !nothing (G k)/\(nothing (G k)=false->∀z,D.atKey (klit k) z=AP (G k))
def iV (w:World) (mb n:Nat) (G:ByteArray->Pu):Prop:=∃D,w.ownsMap Tryz.prog 9 Nl mb n D/\Agr D G
theorem Agr.empty:Agr (.map []) (λk=>⟨k,0,0,0⟩):=λk=>⟨rfl,rfl,λh=>Aat⟩
theorem Agr.put (h:Agr D G) (hD:Maps.IsMap D) (p:Pu) (hp:nothing p=false):Agr (D.put (klit p.k) (AP p)) (upd G p):=by
 intro k;unfold upd;by_cases e:k=p.k
 .rw [aGC e,e];exact⟨rfl,by rw [has_put_same hD (show WideAt.IsKeyLit (klit p.k) from trivial),hp];rfl,λ_ z=>atKey_put_same hD (show WideAt.IsKeyLit (klit p.k) from trivial) _ z⟩
 .rw [aGr e];obtain⟨h1,h2,h3⟩:=h k;exact⟨h1,by rw [has_put_other (Es e),h2],λhn z=>by rw [atKey_put_other (Es e)];exact h3 hn z⟩
theorem Agr.del (h:Agr D G) (p:Pu) (hp:nothing p=true):Agr (D.del (klit p.k)) (upd G p):=by
 intro k;unfold upd;by_cases e:k=p.k
 .rw [aGC e,e];exact⟨rfl,by rw [has_del_same,hp];rfl,λhn=>by rw [hp] at hn;cases hn⟩
 .rw [aGr e];obtain⟨h1,h2,h3⟩:=h k;exact⟨h1,by rw [has_del_other (Es e),h2],λhn z=>by rw [atKey_del_other (Es e)];exact h3 hn z⟩
theorem iV.made (w:World):iV (w.alloc (.map #[] 0)) w.heap.size 0 (λk=>⟨k,0,0,0⟩):=⟨_,World.ownsMap_made w _ _ _,Agr.empty⟩
theorem iV.lt (h:iV w mb n G):mb < w.heap.size:=h.choose_spec.1.lt
theorem iV.kept (h:iV w mb n G) (hb:w'.heap[mb]?=w.heap[mb]?):iV w' mb n G:=by
 exact ajM
theorem iV.look (h:iV w mb n G) (k:ByteArray) (hk:k.size<=maxLen):
 (Instr.lookup 349 (.map (some mb)) (.string k) true).run Tryz.prog w= .ok (.tuple #[xW (if nothing (G k) then⟨ByteArray.empty,0,0,0⟩ else G k),.bool (!nothing (G k))]) w:=by
 obtain⟨D,hown,ha⟩:=h;obtain⟨v,ps,hrun,hv⟩:=hown.look_ok UA Tryz.underlying349 (amx w) (KI _) (ac0 k hk);obtain⟨_,h2,h3⟩:=ha k;rw [hrun,h2];cases hn:nothing (G k)
 .rw [h3 hn] at hv;rw [Gf hv];rfl
 .rw [hn] at h2;rw [atKey_of_not_has h2] at hv;rw [Gf hv];rfl
theorem oW {b:Nat} (h:w.mapTurned w' b):_root_.Go.Proofs.YtohmklmkjmlpjaaGreatDoor.Keeps b w w':=by
 have g:=h.grown;exact⟨g.os,g.tape,g.output,g.size,λk hk hne=>g.block k hk (λe=>hne (aHd e))⟩
theorem iV.store (h:iV w mb n G) (p:Pu) (hk:p.k.size<=maxLen) (hn:n < maxLen) (hp:nothing p=false):
 ∃w',(Instr.mapUpdate 349 (.map (some mb)) (.string p.k) (xW p)).run Tryz.prog w= .ok () w'/\iV w' mb (n+1) (upd G p)/\Keeps mb w w':=by
 obtain⟨D,hown,ha⟩:=h;obtain⟨w',hrun,h1,h2⟩:=hown.store UA Tryz.underlying349 hn (ac0 p.k hk) (KI p);exact⟨w',hrun,⟨_,h1,ha.put hown.isMap p hp⟩,oW h2⟩
theorem iV.drop (h:iV w mb n G) (p:Pu) (hk:p.k.size<=maxLen) (hp:nothing p=true) (ty:TypeId):
 ∃w',(Builtin.delete_ #[349,9] ty #[.map (some mb),.string p.k]).run Tryz.prog w= .ok (.tuple #[]) w'/\iV w' mb n (upd G p)/\Keeps mb w w':=by
 obtain⟨D,hown,ha⟩:=h;obtain⟨w',hrun,h1,h2⟩:=hown.drop UA Tryz.underlying349 (ac0 p.k hk) ty;exact⟨w',hrun,⟨_,h1,ha.del p hp⟩,oW h2⟩
namespace Mth
theorem toList_inj (h:a.toList=b.toList):a=b:=by
 rw [aG8,aG8] at h;exact aHE (Array.toList_inj.1 h)
theorem qx (l:List Pu) (k:ByteArray):(aD l k).k=k:=by
 unfold aD;cases h:l.find? (λp=>p.k.toList == k.toList) with
 |none=>rfl
 |some q=>
  have:=List.find?_some h;exact toList_inj (by simpa using this)
theorem rO {l:List Pu} (hp:l.Pairwise M4) (hq:q∈l):aD l q.k=q:=by
 unfold aD
 have:l.find? (λp=>p.k.toList == q.k.toList)=some q:=by
  induction l with
  |nil=>simp at hq
  |cons x r ih=>
   rw [List.find?_cons];rcases aGF.1 hq with rfl|hq'
   .simp
   .have hx:x.k.toList < q.k.toList:=(aGX.1 hp).1 q hq'
    have hne:(x.k.toList == q.k.toList)=false:=by
     rw [aHS];intro e;rw [e] at hx;exact List.lt_irrefl _ hx
    rw [hne];exact ih (aGX.1 hp).2 hq'
 rw [this];rfl
theorem Nn {l:List Pu} {k:ByteArray} (h:∀q∈l,q.k≠k):aD l k=⟨k,0,0,0⟩:=by
 unfold aD
 have:l.find? (λp=>p.k.toList == k.toList)=none:=by
  rw [List.find?_eq_none];intro q hq;simp only[beq_iff_eq];exact λe=>h q hq (toList_inj e)
 rw [this];rfl
theorem aj0 (h:a.toList < b.toList):a≠b:=λe=>by rw [e] at h;exact List.lt_irrefl _ h
theorem afW {l:List Pu} (hp:l.Pairwise M4) (p:Pu):(jr l p).map (λq=>upd (aD l) p q.k)=jr l p:=by
 have:∀q∈jr l p,upd (aD l) p q.k=q:=by
  intro q hq;unfold jr at hq;unfold upd;rcases aGE.1 hq with hq|hq
  .rw [aGr (aj0 (Ab hq))];exact rO hp ((aHH _).mem hq)
  .rcases aGF.1 hq with rfl|hq
   .rw [aGC rfl]
   .rw [aGr (Ne.symm (aj0 (N8 hp q hq)))];exact rO hp ((aHz _).mem (GY l p.k q hq))
 exact(List.map_congr_left (g:=id) this).trans (List.map_id _)
def place (l:List Pu) (k:ByteArray):Nat:=(sW l k).length
theorem mO:place l k<=l.length:=by
 have h:=congrArg List.length (xw l k);rw [aGp] at h;unfold place;omega
theorem head_take:sW l k=l.take (place l k):=by
 have h:=xw l k;have:(sW l k++lJ l k).take (place l k)=sW l k:=by unfold place;simp
 rw [h] at this;exact this.symm
theorem jQ:lJ l k=l.drop (place l k):=by
 have h:=xw l k;have:(sW l k++lJ l k).drop (place l k)=lJ l k:=by unfold place;simp
 rw [h] at this;exact this.symm
def found (l:List Pu) (k:ByteArray):Bool:=match lJ l k with
 |[]=>false
 |q::_=>q.k.toList == k.toList
theorem wQ {l:List Pu} {p:Pu} (h:found l p.k=true):(jr l p).map (·.k)=l.map (·.k):=by
 have hl:=xw l p.k;unfold found at h;unfold jr lD;cases hf:lJ l p.k with
 |nil=>rw [hf] at h;cases h
 |cons q r=>
  rw [hf] at h hl;dsimp only at h ⊢;rw [aGC h];rw [<-hl];have e:q.k=p.k:=toList_inj Abd;simp[sW,e];rw [show List.takeWhile (λq=>Op.bytesLess q.k.toList p.k.toList) l=sW l p.k from rfl,hl];rfl
theorem tL {l:List Pu} (h:found l p.k=true):(jr l p).length=l.length:=by
 have:=congrArg List.length (wQ h);simpa using this
theorem yw {l:List Pu} {p:Pu} (h:found l p.k=false):jr l p=l.take (place l p.k)++p::l.drop (place l p.k):=by
 unfold jr;rw [head_take,<-jQ];congr 2
 unfold found at h;unfold lD;cases hf:lJ l p.k with
 |nil=>rfl
 |cons q r=>
  rw [hf] at h;dsimp only at h ⊢;rw [h];rfl
theorem wR {l:List Pu} (h:found l p.k=false):(jr l p).length=l.length+1:=by
 rw [yw h];have:=mO l p.k;simp;omega
def wJ (l:List Pu) (k:ByteArray) (t:Nat):ByteArray:=(l[t]?).elim k (·.k)
theorem abG {l:List Pu} (hp:l.Pairwise M4) (k:ByteArray):Lib.bsGo (λt=>Op.bytesLess (wJ l k t).toList k.toList) l.length 0 l.length=place l k:=by
 refine Lib.bsGo_spec _ (place l k) ?_ ?_ _ _ _ Aaa (aGB _) (mO l k)
 .intro t ht;have ht2:t < l.length:=aGq ht (mO l k)
  have hm:l[t]∈sW l k:=by
   rw [head_take];exact List.mem_take_iff_getElem.2 ⟨t,Aaa,rfl⟩
  unfold wJ;rw [aGo ht2];exact(qJ _ _).2 (Ab hm)
 .intro t ht;by_cases ht2:t < l.length
  .unfold wJ;rw [aGo ht2];show Op.bytesLess l[t].k.toList k.toList=false
   rw [aH0];intro hlt;have hlt':=(qJ _ _).1 hlt;have hp0:place l k < l.length:=Aaa
   have hf:lJ l k=l[place l k]::l.drop (place l k+1):=by rw [jQ,aG1 hp0]
   have h1:=Ce l k _ _ hf;rcases aHa (place l k) t with h|h
   .have h2:l[place l k].k.toList < l[t].k.toList:=aGZ.1 hp _ _ hp0 ht2 h;exact h1 (List.lt_trans h2 hlt')
   .have e:t=place l k:=Aaa
    subst e;exact h1 hlt'
  .unfold wJ;rw [List.getElem?_eq_none Aaa];show Op.bytesLess k.toList k.toList=false
   rw [aH0];intro h;exact List.lt_irrefl _ ((qJ _ _).1 h)
theorem Pm:decide (place l k < l.length/\wJ l k (place l k)=k)=found l k:=by
 by_cases h:place l k < l.length
 .have hf:lJ l k=l[place l k]::l.drop (place l k+1):=by rw [jQ,aG1 h]
  have hfo:found l k=(l[place l k].k.toList == k.toList):=by unfold found;rw [hf]
  have hka:wJ l k (place l k)=l[place l k].k:=by unfold wJ;rw [aGo h];rfl
  rw [hfo,aHu,aGR,beq_iff_eq,hka];exact⟨λe=>by rw [e.2],λe=>⟨h,toList_inj e⟩⟩
 .have hf:lJ l k=[]:=by rw [jQ];exact aHA Aaa
  unfold found;rw [hf];exact aGi λe=>h e.1
end Mth
namespace Mth
def eZ (p:Pu) (dm df ds n:Int):Pu:=⟨p.k,p.m+dm*n,p.f+df*n,p.s+ds*n⟩
end Mth
namespace Mth
def dK (l:List Pu) (key:ByteArray) (dm df ds n:Int):List Pu×Bool:=rR l (eZ (aD l key) dm df ds n) n
theorem al3 {l:List Pu} (hp:l.Pairwise M4) (p:Pu):∀q∈jr l p,upd (aD l) p q.k=q:=by
 intro q hq;obtain⟨i,hi,rfl⟩:=aHm.1 hq;have h:=afW hp p;have h2:=congrArg (λx=>x[i]?) h;simp only[List.getElem?_map,aGo hi,Option.map_some,aHM] at h2;exact h2
theorem put_mem {l:List Pu} (h:q∈jr l p):q=p\/q∈l:=by
 exact aiq
theorem JY {l:List Pu} {n:Int} (h:jD l=false):dK l key dm df ds n=(l,false):=by
 unfold dK rR;rw [h];rfl
theorem LV {l:List Pu} {n:Int} (h:¬(1<=n/\n<=1000000000)):dK l key dm df ds n=(l,false):=by
 unfold dK rR;rw [aGi h];simp
theorem LQ {l:List Pu} {n:Int} (h:jD l=true) (hn:1<=n/\n<=1000000000):
 dK l key dm df ds n=if iI (eZ (aD l key) dm df ds n)&&decide ((jr l (eZ (aD l key) dm df ds n)).length<=20) then(jr l (eZ (aD l key) dm df ds n),true) else(l,false):=by
 unfold dK rR;rw [adD _ h,h,aGk hn];rfl
theorem Zw {l:List Pu} {n:Int} (h:keyOk key.data.toList=false):iI (eZ (aD l key) dm df ds n)=false:=by
 unfold iI;have:(eZ (aD l key) dm df ds n).k=key:=qx l key;rw [this,h];rfl
theorem yZ {l:List Pu} {key:ByteArray} (h:jD l=true) (hk:keyOk key.data.toList=true):iI (aD l key)=true:=by
 obtain⟨h1,_,_⟩:=(kQ l).1 h;unfold aD;cases hf:l.find? (λp=>p.k.toList == key.toList) with
 |none=>simp[iI,rz,hk]
 |some q=>exact h1 q (List.mem_of_find?_eq_some hf)
theorem um {d n:Int} (hd:d= -1\/d=0\/d=1) (hn:1<=n/\n<=1000000000): -1000000000<=d*n/\d*n<=1000000000:=by
 rcases hd with rfl|rfl|rfl<;>omega
end Mth
theorem Qg (p:Pu) (w:World):Calls Tryz.prog 309 #[xW p] w (dZ w (.bool (nothing p))):=by
 obtain⟨pk,pm,pf,ps⟩:=p;go_in
 go_wp2
 all_goals
  go_ret
  exact⟨by simp[nothing, *],dY w _⟩
theorem mV (h:w.heap[g]?=some (.cells #[a0,a1] t (0,0))):
 (w.cell? ⟨g,0,none⟩=some a0/\w.cell? ⟨g,1,none⟩=some a1)/\(w.frozen? ⟨g,0,none⟩=false/\w.frozen? ⟨g,1,none⟩=false):=by
 have hc:∀i,w.cell? ⟨g,i,none⟩=#[a0,a1][i]?:=λi=>aGu w g i _ t (0,0) h
 have hf:∀i,w.frozen? ⟨g,i,none⟩=false:=λi=>by unfold World.frozen?;rw [h];simp
 exact⟨⟨hc 0,hc 1⟩,hf 0,hf 1⟩
theorem iV.mono {n':Nat} (h:iV w mb n G) (hn:n<=n'):iV w mb n' G:=by
 obtain⟨D,h1,h2⟩:=h;exact⟨D,h1.mono hn,h2⟩
theorem WU (mp mb n:Nat) (v:Value) (G:ByteArray->Pu) (p:Pu) (w:World) (hk:p.k.size<=1048576) (hn:n < maxLen) (hm:w.heap[mp]?=some (.cells #[v,.map (some mb)] 352 (0,0))) (hM:iV w mb n G):
 Calls Tryz.prog 301 #[.pointer (some ⟨mp,0,none⟩),xW p] w λe w'=>e= .returned (.tuple #[])/\iV w' mb (n+1) (upd G p)/\Keeps mb w w':=by
 have HN:=Hq (λw1=>Qg p w1);have HM:=Hq hm;have HI:=Hq hM;have hkm:p.k.size<=maxLen:=Aai
 have hmp:=Fo.lt_of_blk hm;have hmb:=hM.lt;cases hno:nothing p
 .obtain⟨pk,pm,pf,ps⟩:=p;have HST:=Hq (λw1 h=>iV.store (w:=w1) (mb:=mb) (n:=n) (G:=G) h ⟨pk,pm,pf,ps⟩ hkm hn hno);open asb in exact ayT
 .obtain⟨pk,pm,pf,ps⟩:=p;have HST:=Hq (λw1 ty h=>iV.drop (w:=w1) (mb:=mb) (n:=n) (G:=G) h ⟨pk,pm,pf,ps⟩ hkm hno ty);open asa in exact ayT
theorem MH (mp mb n:Nat) (v:Value) (G:ByteArray->Pu) (k:ByteArray) (w:World) (hk:k.size<=1048576) (hm:w.heap[mp]?=some (.cells #[v,.map (some mb)] 352 (0,0))) (hM:iV w mb n G):
 Calls Tryz.prog 302 #[.pointer (some ⟨mp,0,none⟩),.string k] w (dZ w (xW (G k))):=by
 have hmp:=Fo.lt_of_blk hm;have hmb:=hM.lt;obtain⟨⟨m0,m1⟩,_⟩:=mV hm;have hGk:=(hM.choose_spec.2 k).1;have hrun:=(iV.kept (w':=w.alloc (.cells (jh ⟨#[]⟩ 0 0 0) 108)) hM (by rw [aGv _ _ _ hmb])).look k Aai;clear hm hM;cases hno:nothing (G k)
 .rw [hno] at hrun;generalize G k=p at *;obtain⟨pk,pm,pf,ps⟩:=p;dsimp only at hGk;subst hGk;simp only[Bool.not_false,aGr Bool.false_ne_true] at hrun;go_in
  go_wp2_with fail;exact aGn (v:= .agg (jh pk pm pf ps)) (by simp[results,Tryz.results302,go_sem]) rfl ⟨rfl,((aGs _ _).alloc (aGh _) _).alloc Aac _⟩
 .have hG0:G k=⟨k,0,0,0⟩:=by
   obtain⟨h1,h2,h3⟩:=(QE _).1 hno;generalize G k=p at *;obtain⟨pk,pm,pf,ps⟩:=p;dsimp only at hGk h1 h2 h3;rw [hGk,h1,h2,h3]
  rw [hno] at hrun;rw [hG0];clear hno hG0 hGk;simp only[Bool.not_true,aGC] at hrun;go_in
  go_wp2_with fail;exact aGn (v:= .agg (jh k 0 0 0)) (by simp[results,Tryz.results302,go_sem]) rfl ⟨rfl,((aGs _ _).alloc (aGh _) _).alloc Aac _⟩
end Go.Proofs.YtohmklmkjmlpjaaGreatDoor
