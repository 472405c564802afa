/- Parts. -/
import Derived.Test.YtbolgdleijjgfaaGreatDoorRs5
import Derived.Test.YtbolgdleijjgfaaGreatDoorRs7
namespace Go.Proofs.YtbolgdleijjgfaaGreatDoor
open Go.Proofs.Tryz
set_option maxHeartbeats 4000000
set_option maxRecDepth 100000
open Go.RowKit
open Mth
variable (l:List Pu) (k:ByteArray) {G:ByteArray->Pu} {w w':World} {mb n:Nat} {p:Pu} {a b:ByteArray} {D:DataW Unit}
theorem ak9 (n:Int) (w:World):Calls prog 193 #[.int .i64 n] w λe w'=>e= .returned (.bool (decide (yJ n 0 1000000000)))/\w=w':=by
 by_cases h0:0<=n
 .by_cases h1:n<=1000000000
  .rw [aEO (show yJ n 0 1000000000 from⟨h0,h1⟩)];exact abb
  .rw [aEN (show¬yJ n 0 1000000000 from λh=>h1 h.2)];exact abb
 .rw [aEN (show¬yJ n 0 1000000000 from λh=>h0 h.1)];exact abb
theorem kD (n:Int) (b:Bool) (w:World) (h:rA n=b):Calls prog 193 #[.int .i64 n] w λe w'=>e= .returned (.bool b)/\w=w':=by
 have e:decide (yJ n 0 1000000000)=b:=h;rw [<-e];exact ak9 n w
theorem Ao (s:ByteArray) (b:Bool) (w:World) (h:keyOk s.data.toList=b):Calls prog 190 #[.string s] w λe w'=>e= .returned (.bool b)/\w=w':=by
 rw [<-h];exact J6 s w
theorem acs (p:Pu) (w:World):Calls prog 188 #[yc p] w (dM w (.bool (iB p))):=by
 obtain⟨pk,pm,pf,ps⟩:=p;cases hk:keyOk pk.data.toList
 case' false=>
  have HP:=Hq (show iB ⟨pk,pm,pf,ps⟩=false by simp[iB,hk]);have HK:=Hq (λw1=>Ao pk false w1 hk);clear hk;go_in
  go_wp2_with (go_at_call 190;refine(HK _).mono ?_;rintro e w1 ⟨rfl,rfl⟩)
  exact OX
 have HK:=Hq (λw1=>Ao pk true w1 hk);cases h1:rA pm
 case' false=>
  have HP:=Hq (show iB ⟨pk,pm,pf,ps⟩=false by simp[iB,h1]);have H1:=Hq (λw1=>kD pm false w1 h1);clear hk h1;go_in
  go_wp2_with (first|(go_at_call 190;refine(HK _).mono ?_;rintro e w1 ⟨rfl,rfl⟩)|(go_at_call 193;refine(H1 _).mono ?_;rintro e w1 ⟨rfl,rfl⟩))
  exact OX
 have H1:=Hq (λw1=>kD pm true w1 h1);cases h2:rA pf
 case' false=>
  have HP:=Hq (show iB ⟨pk,pm,pf,ps⟩=false by simp[iB,h2]);have H2:=Hq (λw1=>kD pf false w1 h2);clear hk h1 h2;go_in
  go_wp2_with (first|(go_at_call 190;refine(HK _).mono ?_;rintro e w1 ⟨rfl,rfl⟩)|(go_at_call_of 193 pm;refine(H1 _).mono ?_;rintro e w1 ⟨rfl,rfl⟩)|(go_at_call_of 193 pf;refine(H2 _).mono ?_;rintro e w1 ⟨rfl,rfl⟩))
  exact OX
 have H2:=Hq (λw1=>kD pf true w1 h2);cases h3:rA ps
 case' false=>
  have HP:=Hq (show iB ⟨pk,pm,pf,ps⟩=false by simp[iB,h3]);have H3:=Hq (λw1=>kD ps false w1 h3);clear hk h1 h2 h3;go_in
  go_wp2_with (first|(go_at_call 190;refine(HK _).mono ?_;rintro e w1 ⟨rfl,rfl⟩)|(go_at_call_of 193 pm;refine(H1 _).mono ?_;rintro e w1 ⟨rfl,rfl⟩)|(go_at_call_of 193 pf;refine(H2 _).mono ?_;rintro e w1 ⟨rfl,rfl⟩)|(go_at_call_of 193 ps;refine(H3 _).mono ?_;rintro e w1 ⟨rfl,rfl⟩))
  exact OX
 have H3:=Hq (λw1=>kD ps true w1 h3);have g2:0<=pf/\pf<=1000000000:=aE5 h2;have g3:0<=ps/\ps<=1000000000:=aE5 h3;obtain⟨g20,g21⟩:=g2;obtain⟨g30,g31⟩:=g3;have HP:=Hq (show iB ⟨pk,pm,pf,ps⟩=rA (pf+ps) by simp[iB,hk,h1,h2,h3]);have H4:=Hq (λw1=>kD (pf+ps) _ w1 rfl);clear hk h1 h2 h3;go_in
 go_wp2_with (first|(go_at_call 190;refine(HK _).mono ?_;rintro e w1 ⟨rfl,rfl⟩)|(go_at_call_of 193 pm;refine(H1 _).mono ?_;rintro e w1 ⟨rfl,rfl⟩)|(go_at_call_of 193 pf;refine(H2 _).mono ?_;rintro e w1 ⟨rfl,rfl⟩)|(go_at_call_of 193 ps;refine(H3 _).mono ?_;rintro e w1 ⟨rfl,rfl⟩)|(go_at_call_of 193 (pf+ps);refine(H4 _).mono ?_;rintro e w1 ⟨rfl,rfl⟩))
 exact OX
theorem ql (p:Pu) (b:Bool) (w:World) (h:iB p=b):Calls prog 188 #[yc p] w (dM w (.bool b)):=by
 rw [<-h];exact acs p w
theorem Qn (a b:ByteArray):Op.bytesLess b.toList a.toList= !sle a b:=by
 cases h:sle a b
 .exact(qD _ _).2 ((nS a b).1 h)
 .cases h2:Op.bytesLess b.toList a.toList
  .rfl
  .rw [(nS a b).2 ((qD _ _).1 h2)] at h;cases h
theorem uP (a:Option Addr) (cap:Nat) (l:List Pu) (w:World) (hl:l.length<=1048600) (ha:aG w a l):
 Calls prog 169 #[.slice a l.length cap] w (dM w (.bool (jm l))):=by
 by_cases h20:l.length<=20
 .have HA:=Hq ha;clear ha;have akO:decide (20 < (l.length:Int))=false:=aEN Aaa;go_in
  go_wp2_with fail;go_loopw [10] (λi wr=>∃k:Nat,k<=l.length/\i= .int .i64 k/\(List.range k).all (og l)=true/\aH w wr) (λi _=>l.length - (intOf i).toNat)
  case atStart=>exact abk
  case round=>
   obtain⟨k,hk,rfl,hall,hbel⟩:=hrel;have aY:=Hq hbel;have jr:=Hq hall;clear hall hbel;by_cases hlt:k < l.length
   .open apU in exact awV
   .exact ahC
 .have HF:=Hq (show jm l=false by unfold jm;simp[h20]);have akO:decide (20 < (l.length:Int))=true:=aEO Aaa;clear ha;go_in
  go_wp2_with fail;go_ret;exact⟨aF HF.symm,aEY _ _⟩
theorem FJ (p:Pu) (w:World) (hk:p.k.size<=1048576):Calls prog 134 #[yc p] w (dM w (yc p)):=by
 obtain⟨pk,pm,pf,ps⟩:=p;have HC:=Hq (λw1=>clone pk w1 (by dsimp only at hk;omega));clear hk;go_in
 go_wp2_with fail;refine(HC _).mono ?_;rintro e w1 ⟨rfl,hb1⟩;obtain⟨hA,hB,hz,hbel⟩:=Fo.two_blocks hb1;have HB:=Hq hB;have aY:=Hq hbel;obtain⟨⟨p0,p1,p2,p3⟩,q0,q1,q2,q3⟩:=fP hA;obtain⟨⟨r0,r1,r2,r3⟩,s0,s1,s2,s3⟩:=fP hB;clear hb1 hA hB hbel;go_wp2_with fail;clear r0 r1 r2 r3;refine Fo.bodyPost_at (λW' hW'=>?_);obtain⟨⟨r0,r1,r2,r3⟩,_⟩:=fP (show W'.heap[w.heap.size+1]?=some (.cells (iR pk pm pf ps) 155 (0,0)) by rw [hW'];exact Fo.four_set (Fo.one_other HB Aaa));have hbb:aH w W':=by rw [hW'];exact Fo.four_below (aY.setCell (p:=⟨w.heap.size,0,none⟩) (aEM _) _) Aaa
 refine aET (v:= .agg (iR pk pm pf ps)) (by simp[results,results134,go_sem,r0,r1,r2,r3]) rfl ⟨rfl,hbb⟩
theorem P9 (a:Option Addr) (cap:Nat) (l:List Pu) (key:ByteArray) (w:World) (hl:l.length<=1048600) (hks:∀p∈l,p.k.size<=1048576) (hkey:key.size<=1048576) (ha:aG w a l):
 Calls prog 244 #[.slice a l.length cap,.string key] w (dM w (yc (aD l key))):=by
 have HA:=Hq ha;have Sr:=Hq hks;have jJ:=Hq (λw1=>clone key w1 Aaa);clear ha hks;go_in
 go_wp2_with fail;go_loopw [9] (λi wr=>∃k:Nat,k<=l.length/\i= .int .i64 k/\(l.take k).find? (λp=>p.k.toList == key.toList)=none/\aH w wr/\wr.heap[w.heap.size]?=some (.cells (iR ⟨#[]⟩ 0 0 0) 155 (0,0))) (λi _=>l.length - (intOf i).toNat)
 case atStart=>exact⟨0,aE1 _,rfl,rfl,dP w _,aEK w _⟩
 case round=>
  obtain⟨k,hk,rfl,hnone,hbel,hblk⟩:=hrel;have HN:=Hq hnone;have aY:=Hq hbel;have Hu:=Hq hblk;have afk:=Fo.lt_of_blk hblk;clear hnone hbel hblk;by_cases hlt:k < l.length
  .obtain⟨g,off,rfl,hgw,c0,c1,c2,c3⟩:=aG.four (GR.At.below HA aY) k hlt;have hfs:=JY (λp=>p.k.toList == key.toList) l k hlt HN;have hkk:=ah Sr l[k] (aE2 hlt);cases hf:l[k].k.toList == key.toList
   .have HX:=Hq (hfs.2 hf);clear hfs HN hkk;open av5 in exact aaW
   .have HX:=Hq (show aD l key=l[k] by unfold aD;rw [hfs.1 hf];rfl);clear hfs HN;open avE in exact ahm
  .open amV in exact uz
open Go.RowKit Go.Maps
namespace Mth
def nothing (p:Pu):Bool:=p.m == 0&&p.f == 0&&p.s == 0
theorem Qw (p:Pu):nothing p=true↔p.m=0/\p.f=0/\p.s=0:=by unfold nothing;simp[and_assoc]
def upd (G:ByteArray->Pu) (p:Pu):ByteArray->Pu:=λk=>if k=p.k then p else G k
end Mth
def M4:Value->Option (DataW Unit×List MemPlace)
 | .agg ⟨[.string k,.int .i64 m,.int .i64 f,.int .i64 s]⟩=>some (.agg [.lit (.string k.data.toList),.lit (.int .i64 m),.lit (.int .i64 f),.lit (.int .i64 s)],[])
 |_=>none
def Bd (p:Pu):DataW Unit:= .agg [.lit (.string p.k.data.toList),.lit (.int .i64 p.m),.lit (.int .i64 p.f),.lit (.int .i64 p.s)]
theorem Ku (p:Pu):M4 (yc p)=some (Bd p,[]):=rfl
theorem Gf {v:Value} {ps:List MemPlace} (h:M4 v=some (Bd p,ps)):v=yc p:=by
 unfold M4 at h;split at h
 .rename_i k m f s
  obtain⟨pk,pm,pf,ps⟩:=p;simp only[Bd,aGc,Prod.mk.injEq,DataW.agg.injEq,List.cons.injEq,DataW.lit.injEq,Lit.string.injEq,Lit.int.injEq,true_and,and_true] at h;obtain⟨⟨h1,h2,h3,h4⟩,_⟩:=h;subst h2 h3 h4;have e:k=pk:=aF3 (Array.toList_inj.1 h1);rw [e]
 .cases h
abbrev klit (k:ByteArray):Lit:= .string k.data.toList
theorem Er (h:a≠b):klit a≠klit b:=λe=>h (by
 injection e with e
 exact aF3 (Array.toList_inj.1 e))
theorem Ui:Keyed Tryz.prog 9:=string_keyed Tryz.underlying9
theorem acE (s:ByteArray) (hs:s.size<=maxLen):keyOf Tryz.prog 9 (.string s)=some (klit s):=Go.WideMaps.keyOf_string_mk Tryz.underlying9 hs
theorem alQ (w:World):(zeroValue 155).run Tryz.prog w= .ok (yc ⟨ByteArray.empty,0,0,0⟩) w:=Aab
def Agr (D:DataW Unit) (G:ByteArray->Pu):Prop:=∀k,(G k).k=k/\Maps.has D (klit k)= !nothing (G k)/\(nothing (G k)=false->∀z,D.atKey (klit k) z=Bd (G k))
def iG (w:World) (mb n:Nat) (G:ByteArray->Pu):Prop:=∃D,w.ownsMap Tryz.prog 9 M4 mb n D/\Agr D G
theorem Agr.empty:Agr (.map []) (λk=>⟨k,0,0,0⟩):=λk=>⟨rfl,rfl,λh=>Abb⟩
theorem Agr.put (h:Agr D G) (hD:Maps.IsMap D) (p:Pu) (hp:nothing p=false):Agr (D.put (klit p.k) (Bd p)) (upd G p):=by
 intro k;unfold upd;by_cases e:k=p.k
 .rw [aE7 e,e];exact⟨rfl,by rw [has_put_same hD (show WideAt.IsKeyLit (klit p.k) from trivial),hp];rfl,λ_ z=>atKey_put_same hD (show WideAt.IsKeyLit (klit p.k) from trivial) _ z⟩
 .rw [aEX e];obtain⟨h1,h2,h3⟩:=h k;exact⟨h1,by rw [has_put_other (Er e),h2],λhn z=>by rw [atKey_put_other (Er e)];exact h3 hn z⟩
theorem Agr.del (h:Agr D G) (p:Pu) (hp:nothing p=true):Agr (D.del (klit p.k)) (upd G p):=by
 intro k;unfold upd;by_cases e:k=p.k
 .rw [aE7 e,e];exact⟨rfl,by rw [has_del_same,hp];rfl,λhn=>by rw [hp] at hn;cases hn⟩
 .rw [aEX e];obtain⟨h1,h2,h3⟩:=h k;exact⟨h1,by rw [has_del_other (Er e),h2],λhn z=>by rw [atKey_del_other (Er e)];exact h3 hn z⟩
theorem iG.made (w:World):iG (w.alloc (.map #[] 0)) w.heap.size 0 (λk=>⟨k,0,0,0⟩):=⟨_,World.ownsMap_made w _ _ _,Agr.empty⟩
theorem iG.lt (h:iG w mb n G):mb < w.heap.size:=h.choose_spec.1.lt
theorem iG.kept (h:iG w mb n G) (hb:w'.heap[mb]?=w.heap[mb]?):iG w' mb n G:=by
 exact ai1
theorem iG.look (h:iG w mb n G) (k:ByteArray) (hk:k.size<=maxLen):
 (Instr.lookup 353 (.map (some mb)) (.string k) true).run Tryz.prog w= .ok (.tuple #[yc (if nothing (G k) then⟨ByteArray.empty,0,0,0⟩ else G k),.bool (!nothing (G k))]) w:=by
 obtain⟨D,hown,ha⟩:=h;obtain⟨v,ps,hrun,hv⟩:=hown.look_ok Ui Tryz.underlying353 (alQ w) (Ku _) (acE k hk);obtain⟨_,h2,h3⟩:=ha k;rw [hrun,h2];cases hn:nothing (G k)
 .rw [h3 hn] at hv;rw [Gf hv];rfl
 .rw [hn] at h2;rw [atKey_of_not_has h2] at hv;rw [Gf hv];rfl
theorem oL {b:Nat} (h:w.mapTurned w' b):_root_.Go.Proofs.YtbolgdleijjgfaaGreatDoor.Keeps b w w':=by
 have g:=h.grown;exact⟨g.os,g.tape,g.output,g.size,λk hk hne=>g.block k hk (λe=>hne (aFD e))⟩
theorem iG.store (h:iG w mb n G) (p:Pu) (hk:p.k.size<=maxLen) (hn:n < maxLen) (hp:nothing p=false):
 ∃w',(Instr.mapUpdate 353 (.map (some mb)) (.string p.k) (yc p)).run Tryz.prog w= .ok () w'/\iG w' mb (n+1) (upd G p)/\Keeps mb w w':=by
 obtain⟨D,hown,ha⟩:=h;obtain⟨w',hrun,h1,h2⟩:=hown.store Ui Tryz.underlying353 hn (acE p.k hk) (Ku p);exact⟨w',hrun,⟨_,h1,ha.put hown.isMap p hp⟩,oL h2⟩
theorem iG.drop (h:iG w mb n G) (p:Pu) (hk:p.k.size<=maxLen) (hp:nothing p=true) (ty:TypeId):
 ∃w',(Builtin.delete_ #[353,9] ty #[.map (some mb),.string p.k]).run Tryz.prog w= .ok (.tuple #[]) w'/\iG w' mb n (upd G p)/\Keeps mb w w':=by
 obtain⟨D,hown,ha⟩:=h;obtain⟨w',hrun,h1,h2⟩:=hown.drop Ui Tryz.underlying353 (acE p.k hk) ty;exact⟨w',hrun,⟨_,h1,ha.del p hp⟩,oL h2⟩
namespace Mth
theorem toList_inj (h:a.toList=b.toList):a=b:=by
 rw [aFB,aFB] at h;exact aF3 (Array.toList_inj.1 h)
theorem qp (l:List Pu) (k:ByteArray):(aD l k).k=k:=by
 unfold aD;cases h:l.find? (λp=>p.k.toList == k.toList) with
 |none=>rfl
 |some q=>
  have:=List.find?_some h;exact toList_inj (by simpa using this)
theorem rM {l:List Pu} (hp:l.Pairwise Og) {q:Pu} (hq:q∈l):aD l q.k=q:=by
 unfold aD
 have:l.find? (λp=>p.k.toList == q.k.toList)=some q:=by
  induction l with
  |nil=>simp at hq
  |cons x r ih=>
   rw [List.find?_cons];rcases aE8.1 hq with rfl|hq'
   .simp
   .grind [List.lt_irrefl,List.pairwise_cons]
 rw [this];rfl
theorem M7 {l:List Pu} {k:ByteArray} (h:∀q∈l,q.k≠k):aD l k=⟨k,0,0,0⟩:=by
 grind [aD,toList_inj,List.find?_eq_none]
theorem ajd (h:a.toList < b.toList):a≠b:=λe=>by rw [e] at h;exact List.lt_irrefl _ h
theorem afL {l:List Pu} (hp:l.Pairwise Og) (p:Pu):(iY l p).map (λq=>upd (aD l) p q.k)=iY l p:=by
 have:∀q∈iY l p,upd (aD l) p q.k=q:=by
  intro q hq;unfold iY at hq;unfold upd;rcases aE6.1 hq with hq|hq
  .rw [aEX (ajd (Ak hq))];exact rM hp ((aGg _).mem hq)
  .rcases aE8.1 hq with rfl|hq
   .rw [aE7 rfl]
   .rw [aEX (Ne.symm (ajd (NC hp q hq)))];exact rM hp ((aF6 _).mem (He l p.k q hq))
 exact(List.map_congr_left (g:=id) this).trans (List.map_id _)
def place (l:List Pu) (k:ByteArray):Nat:=(wI l k).length
theorem mh:place l k<=l.length:=by
 grind [place,xD]
theorem head_take:wI l k=l.take (place l k):=by
 grind [lM,wI,place,xD]
theorem jG:lM l k=l.drop (place l k):=by
 grind [lM,wI,place,xD]
def found (l:List Pu) (k:ByteArray):Bool:=match lM l k with
 |[]=>false
 |q::_=>q.k.toList == k.toList
theorem wQ {l:List Pu} (h:found l p.k=true):(iY l p).map (·.k)=l.map (·.k):=by
 grind [found,lM,wI,iY,kV,xD,toList_inj]
theorem tF {l:List Pu} (h:found l p.k=true):(iY l p).length=l.length:=by
 have:=congrArg List.length (wQ h);simpa using this
theorem yF {l:List Pu} (h:found l p.k=false):iY l p=l.take (place l p.k)++p::l.drop (place l p.k):=by
 grind [found,lM,iY,kV,jG,head_take]
theorem wR {l:List Pu} (h:found l p.k=false):(iY l p).length=l.length+1:=by
 rw [yF h];have:=mh l p.k;simp;omega
def Ar (l:List Pu) (k:ByteArray) (t:Nat):ByteArray:=(l[t]?).elim k (·.k)
theorem abu {l:List Pu} (hp:l.Pairwise Og) (k:ByteArray):Lib.bsGo (λt=>Op.bytesLess (Ar l k t).toList k.toList) l.length 0 l.length=place l k:=by
 refine Lib.bsGo_spec _ (place l k) ?_ ?_ _ _ _ Aaa (aE1 _) (mh l k)
 .intro t ht;have ht2:t < l.length:=aEU ht (mh l k);have hm:l[t]∈wI l k:=by grind [head_take,List.mem_take_iff_getElem]
  grind [Ar,Ak,qD]
 .intro t ht;by_cases ht2:t < l.length
  .unfold Ar;rw [aEQ ht2];show Op.bytesLess l[t].k.toList k.toList=false
   rw [aGI];intro hlt;have hlt':=(qD _ _).1 hlt;have hp0:place l k < l.length:=Aaa
   have hf:lM l k=l[place l k]::l.drop (place l k+1):=by rw [jG,aFy hp0]
   have h1:=Ce l k _ _ hf;rcases aFX (place l k) t with h|h
   .grind [place,List.lt_trans,List.pairwise_iff_getElem]
   .grind
  .grind [Ar,qD]
theorem Pb:decide (place l k < l.length/\Ar l k (place l k)=k)=found l k:=by
 by_cases h:place l k < l.length
 .have hf:lM l k=l[place l k]::l.drop (place l k+1):=by rw [jG,aFy h]
  have hfo:found l k=(l[place l k].k.toList == k.toList):=by unfold found;rw [hf]
  grind [Ar,place,toList_inj]
 .grind [found,lM,jG,List.drop_eq_nil_of_le]
end Mth
namespace Mth
def eX (p:Pu) (dm df ds n:Int):Pu:=⟨p.k,p.m+dm*n,p.f+df*n,p.s+ds*n⟩
end Mth
theorem P7 (p:Pu) (w:World):Calls Tryz.prog 310 #[yc p] w (dM w (.bool (nothing p))):=by
 obtain⟨pk,pm,pf,ps⟩:=p;go_in
 go_wp2
 all_goals
  go_ret
  exact⟨by simp[nothing, *],dP w _⟩
theorem mH {g:Nat} {a0 a1:Value} {t:TypeId} (h:w.heap[g]?=some (.cells #[a0,a1] t (0,0))):
 (w.cell? ⟨g,0,none⟩=some a0/\w.cell? ⟨g,1,none⟩=some a1)/\(w.frozen? ⟨g,0,none⟩=false/\w.frozen? ⟨g,1,none⟩=false):=by
 have hc:∀i,w.cell? ⟨g,i,none⟩=#[a0,a1][i]?:=λi=>aEW w g i _ t (0,0) h
 have hf:∀i,w.frozen? ⟨g,i,none⟩=false:=λi=>by unfold World.frozen?;rw [h];simp
 exact⟨⟨hc 0,hc 1⟩,hf 0,hf 1⟩
theorem iG.mono {n':Nat} (h:iG w mb n G) (hn:n<=n'):iG w mb n' G:=by
 obtain⟨D,h1,h2⟩:=h;exact⟨D,h1.mono hn,h2⟩
theorem WG (mp mb n:Nat) (v:Value) (G:ByteArray->Pu) (p:Pu) (w:World) (hk:p.k.size<=1048576) (hn:n < maxLen) (hm:w.heap[mp]?=some (.cells #[v,.map (some mb)] 356 (0,0))) (hM:iG w mb n G):
 Calls Tryz.prog 303 #[.pointer (some ⟨mp,0,none⟩),yc p] w λe w'=>e= .returned (.tuple #[])/\iG w' mb (n+1) (upd G p)/\Keeps mb w w':=by
 have HN:=Hq (λw1=>P7 p w1);have HM:=Hq hm;have HI:=Hq hM;have hkm:p.k.size<=maxLen:=Aaj
 have hmp:=Fo.lt_of_blk hm;have hmb:=hM.lt;cases hno:nothing p
 .obtain⟨pk,pm,pf,ps⟩:=p;have HST:=Hq (λw1 h=>iG.store (w:=w1) (mb:=mb) (n:=n) (G:=G) h ⟨pk,pm,pf,ps⟩ hkm hn hno);open aqH in exact aw1
 .obtain⟨pk,pm,pf,ps⟩:=p;have HST:=Hq (λw1 ty h=>iG.drop (w:=w1) (mb:=mb) (n:=n) (G:=G) h ⟨pk,pm,pf,ps⟩ hkm hno ty);open aqG in exact aw1
theorem Mk (mp mb n:Nat) (v:Value) (G:ByteArray->Pu) (k:ByteArray) (w:World) (hk:k.size<=1048576) (hm:w.heap[mp]?=some (.cells #[v,.map (some mb)] 356 (0,0))) (hM:iG w mb n G):
 Calls Tryz.prog 304 #[.pointer (some ⟨mp,0,none⟩),.string k] w (dM w (yc (G k))):=by
 have hmp:=Fo.lt_of_blk hm;have hmb:=hM.lt;obtain⟨⟨m0,m1⟩,_⟩:=mH hm;have hGk:=(hM.choose_spec.2 k).1;have hrun:=(iG.kept (w':=w.alloc (.cells (iR ⟨#[]⟩ 0 0 0) 155)) hM (by rw [aEZ _ _ _ hmb])).look k Aaj;clear hm hM;cases hno:nothing (G k)
 .rw [hno] at hrun;generalize G k=p at *;obtain⟨pk,pm,pf,ps⟩:=p;dsimp only at hGk;subst hGk;simp only[Bool.not_false,aEX Bool.false_ne_true] at hrun;go_in
  go_wp2_with fail;exact aET (v:= .agg (iR pk pm pf ps)) (by simp[results,Tryz.results304,go_sem]) rfl ⟨rfl,((aEY _ _).alloc (aEM _) _).alloc Aac _⟩
 .have hG0:G k=⟨k,0,0,0⟩:=by
   obtain⟨h1,h2,h3⟩:=(Qw _).1 hno;generalize G k=p at *;obtain⟨pk,pm,pf,ps⟩:=p;dsimp only at hGk h1 h2 h3;rw [hGk,h1,h2,h3]
  rw [hno] at hrun;rw [hG0];clear hno hG0 hGk;simp only[Bool.not_true,aE7] at hrun;go_in
  go_wp2_with fail;exact aET (v:= .agg (iR k 0 0 0)) (by simp[results,Tryz.results304,go_sem]) rfl ⟨rfl,((aEY _ _).alloc (aEM _) _).alloc Aac _⟩
end Go.Proofs.YtbolgdleijjgfaaGreatDoor
