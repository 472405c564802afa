/- Parts. -/
import Derived.Test.YtacgbldlonoaaaaGreatDoorRr16
import Derived.Test.YtacgbldlonoaaaaGreatDoorRr15
import Derived.Test.YtacgbldlonoaaaaGreatDoorRr5
namespace Go.Proofs.YtacgbldlonoaaaaGreatDoor
set_option maxHeartbeats 4000000
set_option maxRecDepth 100000
open Go.RowKit
open Mth
namespace Mth
def upTo (n:Nat):List Int:=(List.range n).map Int.ofNat
theorem ZL (n:Nat):(upTo n).Pairwise (· < ·):=by
 unfold upTo;rw [List.pairwise_map];exact List.pairwise_lt_range.imp (λ{a b} h=>by show(a:Int) < (b:Int);omega)
theorem ZN (n:Nat) (x:Int):x∈upTo n↔0<=x/\x < n:=by
 unfold upTo;rw [List.mem_map];constructor
 .rintro⟨a,ha,rfl⟩;have:=List.mem_range.1 ha;show 0<=(a:Int)/\(a:Int) < n
  omega
 .intro h;exact⟨x.toNat,List.mem_range.2 Aaa,by show((x.toNat:Nat):Int)=x;omega⟩
theorem YN {id par:Int} {l:List Int} (h:gQ (jo id par) iA l=true):l.length<=30:=by
 obtain⟨h1,h2⟩:=(rJ (r:=iA) mD).1 h
 have h3:=XD (upTo 30) l (h2.imp (λ{a b} h=>of_decide_eq_true h)) (ZL 30) (λx hx=>by
  have h4:=h1 x hx
  unfold jo rF at h4
  simp only[Bool.and_eq_true,decide_eq_true_eq] at h4
  rw [ZN]
  omega)
 simpa [upTo] using h3
def DU (n:Nd):Bool:=rF n.id&&(decide (n.par= -1)||(rF n.par&&decide (n.par≠n.id)))&&gQ (jo n.id n.par) iA n.kids
theorem Qt (n:Nd):DU n=dZ n:=by
 unfold DU dZ;cases hc:gQ (jo n.id n.par) iA n.kids
 .simp
 .rw [decide_eq_true (YN hc)];cases hi:rF n.id
  .simp
  .have h0:0<=n.id/\n.id<=29:=of_decide_eq_true hi;by_cases h1:n.par= -1
   .have h2:n.par≠n.id:=Aaa
    rw [decide_eq_true h1,decide_eq_true h2,decide_eq_true (show -1<=n.par/\n.par<=29 by omega)];rfl
   .rw [decide_eq_false h1];unfold rF;by_cases h2:0<=n.par/\n.par<=29
    .rw [decide_eq_true h2,decide_eq_true (show -1<=n.par/\n.par<=29 by omega)];simp
    .rw [decide_eq_false h2,decide_eq_false (show¬(-1<=n.par/\n.par<=29) by omega)];simp
theorem abg {id par x:Int} (h:jo id par x=true): -1 < x:=by
 unfold jo rF at h;exact Xt
theorem Yt {low x:Int} (h:zf low x=true):low - 1 < x:=by
 unfold zf at h;simp only[decide_eq_true_eq] at h;omega
theorem Sc {n:Nd} {s:kC} (h:tX n s=true):0 < s.i:=by
 unfold tX at h;exact Xt
theorem Sj {n:Nd} {s:Rq} (h:qU n s=true):n.old < s.no:=by
 unfold qU at h;exact Xt
end Mth
theorem Qd (n:Nd) (A:bH) (w:World) (hl:n.kids.length<=1048600) (ha:eu w A.k n.kids):
 Calls Tryz.prog 52 #[fI n A] w (eP w (.bool (DU n))):=by
 have HA:=Hq ha;have HD:Hid (DU n=(rF n.id&&(decide (n.par= -1)||(rF n.par&&decide (n.par≠n.id)))&&gQ (jo n.id n.par) iA n.kids)):=rfl;have vM:=Hq (λk h=>nR (jo n.id n.par) iA n.kids k h);have jO:=Hq (λk h=>xM (jo n.id n.par) (λx=>x) (-1) (λx=>abg) n.kids k h);have wZ:=Hq (λk h=>rX (λx:Int=>x) (-1) n.kids k h);have QY:=Hq (λx=>show jo n.id n.par x=(rF x&&decide (x≠n.id)&&decide (x≠n.par)) from rfl);have kE:=Hq (heap_alloc_new w (.cells (dH n A) 30));generalize DU n=TT at *;generalize jo n.id n.par=KB at *;open akG in exact zB
theorem MI (s:Sn) (b:Option Addr) (c:Nat) (w:World) (hl:s.ids.length<=1048600) (ha:eu w b s.ids):
 Calls Tryz.prog 132 #[.agg #[.int .i64 s.f,.int .i64 s.l,.slice b s.ids.length c]] w (eP w (.bool (uh s))):=by
 obtain⟨fr,lo,ids⟩:=s;dsimp only at hl ha ⊢;have HA:=Hq ha;have HD:Hid (uh ⟨fr,lo,ids⟩=(fD lo&&decide (ids.length<=40)&&gQ (zf lo) iA ids)):=rfl;have vM:=Hq (λk h=>nR (zf lo) iA ids k h);have jO:=Hq (λk h=>xM (zf lo) (λx=>x) (lo - 1) (λx=>Yt) ids k h);have wZ:=Hq (λk h=>rX (λx:Int=>x) (lo - 1) ids k h);have Z5:=Hq (λk (h:gQ (zf lo) iA (ids.take k)=true)=>zC (key:=λx=>x) (y0:=lo - 1) (λx=>Yt) h);have QY:=Hq (λx=>show zf lo x=decide (lo<=x/\x<=1000000000) from rfl);generalize uh ⟨fr,lo,ids⟩=TT at *;generalize zf lo=KB at *;clear ha;cases h1:fD lo
 case' false=>
  have HP:Hid (TT=false):=by rw [ah HD,h1];rfl
  have H1:=Hq (λw1=>isSomeAmount lo false w1 h1)
  clear HD h1
  go_enter Tryz.func132,Tryz.ntmps132
  go_wp2_with (go_at_call 54;refine(H1 _).mono ?_;rintro e w1 ⟨rfl,rfl⟩)
  go_ret
  exact⟨aD HP.symm,aj w _⟩
 have H1:=Hq (λw1=>isSomeAmount lo true w1 h1);have hlo:1<=lo/\lo<=1000000000:=of_decide_eq_true h1;obtain⟨hlo1,hlo2⟩:=hlo;by_cases h2:ids.length<=40
 case' neg=>
  have HP:=Hq (show TT=false by rw [ah HD,decide_eq_false h2];simp)
  have hb2:decide ((40:Int) < ids.length)=true:=decide_eq_true Aaa
  clear HD h1
  go_enter Tryz.func132,Tryz.ntmps132
  go_wp2_with (go_at_call 54;refine(H1 _).mono ?_;rintro e w1 ⟨rfl,rfl⟩)
  go_ret
  exact⟨aD HP.symm,aj w _⟩
 have hb2:decide ((40:Int) < ids.length)=false:=decide_eq_false Aaa;have lS:Hid (TT=gQ KB iA ids):=by rw [ah HD,h1,decide_eq_true h2];rfl
 clear HD h1;go_enter Tryz.func132,Tryz.ntmps132
 go_wp2_with (go_at_call 54;refine(H1 _).mono ?_;rintro e w1 ⟨rfl,rfl⟩)
 go_loop [3,22] (λlv i=>∃(k:Nat) (y:Int),k<=ids.length/\i= .int .i64 k/\lv= .int .i64 y/\y=vV (λx=>x) (lo - 1) (ids.take k)/\gQ KB iA (ids.take k)=true) (λ_ i=>ids.length - (intOf i).toNat)
 case atStart=>exact⟨0,lo - 1,Nat.zero_le _,rfl,Aai,rfl,rfl⟩
 case round=>
  obtain⟨k,y,hk,rfl,rfl,hy,hall⟩:=hrel;have mV:=Hq hall;have HY:=Hq hy;have hy0:lo - 1<=y:=by rw [hy];exact Z5 k hall
  clear hall hy;by_cases hlt:k < ids.length
  case' neg=>
   have hke:k=ids.length:=Aaa
   subst hke
   have hnlt:decide ((ids.length:Int) < (ids.length:Int))=false:=Aac
   have HF:Hid (TT=true):=by
    exact Tk
   go_wp2_with fail
   go_ret
   exact⟨aD HF.symm,aj w _⟩
  obtain⟨g,off,rfl,hgw,q0⟩:=eu.one (GR.At.below HA (aj w (.cells #[.int .i64 fr,.int .i64 lo,.slice b ids.length c] 90))) k hlt;have HBAD:Hid (gQ KB iA (ids.take (k+1))=false->TT=false):=λh=>lS.trans (vM _ h)
  have gG:Hid (gQ KB iA (ids.take (k+1))=(KB ids[k]&&decide (y < ids[k]))):=by
   exact adT
  have BZ:=Hq (wZ k hlt);have Bl:=Hq (QY ids[k]);clear jO wZ vM QY Z5;generalize ids[k]=x at *;by_cases h2:y < x
  case' neg=>
   have hb3:decide (x<=y)=true:=decide_eq_true Aaa
   have HV:=Hq (HBAD (by rw [ah gG,ah Bl];rw [decide_eq_false h2];simp))
   clear HBAD gG Bl
   go_wp2_with (fail)
   go_ret
   exact⟨aD HV.symm,aj w _⟩
  have hb3:decide (x<=y)=false:=decide_eq_false Aaa;cases h3:pz x
  case' false=>
   have H3:=Hq (λw1=>jR x false w1 h3)
   have h4:¬(0<=x/\x<=1000000000):=of_decide_eq_false h3
   have HV:=Hq (HBAD (by rw [ah gG,ah Bl];rw [decide_eq_false (show¬(lo<=x/\x<=1000000000) by omega)];rfl))
   clear HBAD gG Bl h3 h4
   go_wp2_with (go_at_call 133;refine(H3 _).mono ?_;rintro e w1 ⟨rfl,rfl⟩)
   go_ret
   exact⟨aD HV.symm,aj w _⟩
  have H3:=Hq (λw1=>jR x true w1 h3);have h4:0<=x/\x<=1000000000:=of_decide_eq_true h3;have HV:=Hq (show gQ KB iA (ids.take (k+1))=true by rw [ah gG,ah Bl,decide_eq_true (show lo<=x/\x<=1000000000 by omega),decide_eq_true h2];rfl);clear HBAD gG Bl h3 h4;go_wp2_with (go_at_call 133;refine(H3 _).mono ?_;rintro e w1 ⟨rfl,rfl⟩)
  exact aed
namespace Mth
def tF (id par:Int) (kids fs:List Int):Nd:=⟨id,par,kids,1,[],[],fs.map (λx=>⟨x,1,[]⟩),0,[]⟩
def Ev:Nd:=⟨0,0,[],0,[],[],[],0,[]⟩
end Mth
def BJ (x:Int):R3:=⟨x,1,.slice none 0 0⟩
abbrev nnc (id par:Int) (kv v:Value):Array Value:=#[.int .i64 id,.int .i64 par,kv,.int .i64 1,.slice none 0 0,.slice none 0 0,v,.int .i64 0,.slice none 0 0]
structure NN (w2 wr:World) (nb:Nat) (id par:Int) (kv v:Value) (fs:List Int):Prop where
 keep:aC [nb] w2 wr
 blk:wr.heap[nb]?=some (.cells (nnc id par kv v) 30 (0,0))
 own:wr.ownsRow w2.heap.size 90 3 v fs.length (GR.flat eG (fs.map BJ))
 lt:nb < w2.heap.size
theorem NN.step {w2 wr w':World} {nb:Nat} {id par:Int} {kv v:Value} {fs:List Int} (h:NN w2 wr nb id par kv v fs) (hb:aX wr w'):NN w2 w' nb id par kv v fs:=
 ⟨h.keep.trans (aC.of_below hb),ay h.blk hb,GR.own_below h.own hb,h.lt⟩
theorem NN.app {w2 wr w6:World} {nb:Nat} {id par:Int} {kv v v':Value} {fs:List Int} {o:Obj} (h:NN w2 wr nb id par kv v fs) (x:Int)
 (hown:w6.ownsRow w2.heap.size 90 3 v' (fs.length+1) (GR.flat eG (fs.map BJ)++eG (BJ x))) (hg:(wr.alloc o).grownBy w6 v.ownBlock):
 NN w2 (w6.setCell ⟨nb,6,none⟩ v') nb id par kv v' (fs++[x]):=by
 have hvb:∀k,v.ownBlock=some k->w2.heap.size<=k:=λk hk=>(h.own.lt k hk).1
 have hlt:=h.lt;have hsz:=h.keep.size
 have hblk6:w6.heap[nb]?=some (.cells (nnc id par kv v) 30 (0,0)):=by
  rw [hg.block nb Aag (λe=>by have:=hvb nb e.symm;omega),Below.heap_alloc _ _ _ Aaa];exact h.blk
 have hne:∀k,v'.ownBlock=some k->k≠nb:=λk hk=>by have:=(hown.lt k hk).1;omega
 refine⟨?_,?_,?_,hlt⟩
 .refine⟨hg.os.trans h.keep.os,hg.tape.trans h.keep.tape,hg.output.trans h.keep.output,?_,λk hk hkn=>?_⟩
  .have:=hg.size;simp[World.setCell] at this ⊢;omega
  .have hkn':k≠nb:=by simpa using hkn
   exact adL
 .exact bC hblk6 6 v'
 .have e1:(fs++[x]).length=fs.length+1:=Aac
  have e2:GR.flat eG ((fs++[x]).map BJ)=GR.flat eG (fs.map BJ)++eG (BJ x):=by rw [List.map_append,GR.flat_append];simp[GR.flat]
  rw [e1,e2];refine hown.kept (row:=some nb) ⟨rfl,rfl,rfl,Aao,λk _ hk=>Below.heap_setCell _ _ _ _ (λe=>hk Aan)⟩ ?_;exact aeg
theorem fP.new {w:World} {B:Nat} {v:Value} {fs:List Int} (h:w.ownsRow B 90 3 v fs.length (GR.flat eG (fs.map BJ))):∃a c g,v= .slice a fs.length c/\fP w a g (λ_=>0) (fs.map (λx=>⟨x,1,[]⟩))/\(∀x∈fp g fs,B<=x/\x < w.heap.size):=by
 have h':w.ownsRow B 90 3 v (fs.map BJ).length (GR.flat eG (fs.map BJ)):=by rw [List.length_map];exact h
 obtain⟨a,c,g,e,hW,hr,_⟩:=GR.W.of_own bZ h';refine⟨a,c,g,by rw [e,List.length_map],⟨fs.map BJ,hW,Aac,λi hi=>?_⟩,λx hx=>hr x ?_⟩
 .refine⟨none,0,?_,?_⟩
  .have hi':i < fs.length:=Aap
   simp[hi',BJ]
  .simp only[List.getElem_map];exact GR.W.nil
 .have:=gH hx;rw [this.1];exact dQ (by simpa using this.2)
theorem Rz (I:Nat->Nat) (fs:List Int):qw I (fs.map (λx=>(⟨x,1,[]⟩:Sn)))=[]:=by
 apply List.eq_nil_iff_forall_not_mem.2
 intro x hx;obtain⟨i,hi,_,hp⟩:=uG hx;simp at hp
theorem sZ.new {w:World} {B B2:Nat} {id par:Int} {kv v:Value} {kids fs:List Int} (hk:w.ownsRow B 3 1 kv kids.length (GR.flat aW kids)) (hkl:∀x,kv.ownBlock=some x->x < B2) (hs:w.ownsRow B2 90 3 v fs.length (GR.flat eG (fs.map BJ))) (hB:B<=B2):
 ∃A G,Value.agg (nnc id par kv v)=fI (tF id par kids fs) A/\sZ w A G (tF id par kids fs)/\G.Sep (tF id par kids fs) B w.heap.size:=by
 obtain⟨a1,c1,g1,rfl,hW1,hr1,ho1⟩:=GR.W.of_own aQ hk;obtain⟨a2,c2,g2,rfl,hW2,hr2⟩:=fP.new hs
 have hall:∀x,x∈aV.all ⟨g1,0,0,g2,0,λ_=>0⟩ (tF id par kids fs)->x∈fp g1 kids\/x∈fp g2 fs:=λx hx=>by
  rcases aV.mem_all.1 hx with h|h|h|h|h|h
  .exact .inl h
  .simp[tF,fp] at h
  .simp[tF,fp] at h
  .right
   rw [PW (l':=fs) (by simp[tF])] at h;exact h
  .simp only[tF] at h;rw [Rz] at h;simp at h
  .simp[tF,fp] at h
 refine⟨⟨a1,none,none,a2,none,c1,0,0,c2,0⟩,⟨g1,0,0,g2,0,λ_=>0⟩,by simp[nnc,fI,dH,tF],⟨hW1,GR.W.nil,GR.W.nil,hW2,GR.W.nil⟩,⟨?_,λx hx=>?_⟩⟩
 .have e:aV.all ⟨g1,0,0,g2,0,λ_=>0⟩ (tF id par kids fs)=fp g1 kids++fp g2 fs:=by
   unfold aV.all;simp only[tF];rw [Rz,PW (l:=fs.map _) (l':=fs) Aac];simp[fp]
  rw [e,List.nodup_append];refine⟨Db _ _,Db _ _,λa ha b hb=>?_⟩;have h1:=hkl a (ho1 a ha);have h2:=(hr2 b hb).1;omega
 .rcases hall x hx with h|h
  .exact hr1 x h
  .have:=hr2 x h;omega
theorem sZ.zero {w:World}:sZ w ⟨none,none,none,none,none,0,0,0,0,0⟩ ⟨0,0,0,0,0,λ_=>0⟩ Ev/\aV.Sep ⟨0,0,0,0,0,λ_=>0⟩ Ev w.heap.size w.heap.size:=
 ⟨⟨GR.W.nil,GR.W.nil,GR.W.nil,⟨[],GR.W.nil,rfl,λi hi=>by simp[Ev] at hi⟩,GR.W.nil⟩,⟨by simp[aV.all,Ev,fp,qw],λx hx=>by simp[aV.all,Ev,fp,qw] at hx⟩⟩
open Go.RowKit Go.Maps
abbrev Dk (x:Int):Lit:= .int .i64 x
theorem abb {a b:Int} (h:a≠b):Dk a≠Dk b:=λe=>h (by injection e)
theorem qy:Keyed Tryz.prog 3:=int_keyed Tryz.underlying3
theorem M4 (x:Int) (h0:0<=x) (h1:x<=1000000000):keyOf Tryz.prog 3 (.int .i64 x)=some (Dk x):=keyOf_int_mk Tryz.underlying3 (by simp only[Lit.wf,Bool.and_eq_true,decide_eq_true_eq];constructor<;>(first|omega|(unfold IntKind.min;simp;omega)|(unfold IntKind.max;simp;omega)|(simp[IntKind.min,IntKind.max,IntKind.bits,IntKind.signed];omega)))
theorem ZY (w:World):(zeroValue 262).run Tryz.prog w= .ok (.agg #[]) w:=Aab
def fA (w:World) (mb n:Nat) (l:List Int):Prop:=∃D:DataW Unit,w.ownsMap Tryz.prog 3 unitElem mb n D/\∀x,Maps.has D (Dk x)=decide (x∈l)
theorem fA.made (w:World):fA (w.alloc (.map #[] 0)) w.heap.size 0 []:=⟨_,World.ownsMap_made w _ _ _,λx=>by simp[Maps.has]⟩
theorem fA.lt {w:World} {mb n:Nat} {l:List Int} (h:fA w mb n l):mb < w.heap.size:=h.choose_spec.1.lt
theorem fA.kept {w w':World} {mb n:Nat} {l:List Int} (h:fA w mb n l) (hb:w'.heap[mb]?=w.heap[mb]?):fA w' mb n l:=by
 exact aeB
theorem fA.mono {w:World} {mb n n':Nat} {l:List Int} (h:fA w mb n l) (hn:n<=n'):fA w mb n' l:=by
 obtain⟨D,h1,h2⟩:=h;exact⟨D,h1.mono hn,h2⟩
theorem fA.same {w:World} {mb n:Nat} {l l':List Int} (h:fA w mb n l) (he:∀x,x∈l↔x∈l'):fA w mb n l':=by
 obtain⟨D,h1,h2⟩:=h;exact⟨D,h1,λx=>by rw [h2 x,decide_eq_decide];exact he x⟩
theorem fA.look {w:World} {mb n:Nat} {l:List Int} (h:fA w mb n l) (x:Int) (h0:0<=x) (h1:x<=1000000000):
 (Instr.lookup 259 (.map (some mb)) (.int .i64 x) true).run Tryz.prog w= .ok (.tuple #[.agg #[],.bool (decide (x∈l))]) w:=by
 obtain⟨D,hown,ha⟩:=h;obtain⟨v,ps,hrun,hv⟩:=hown.look_ok qy Tryz.underlying259 (ZY w) unitElem_mk (M4 x h0 h1);rw [hrun,ha x,(unitElem_inv hv).1]
theorem fA.store {w:World} {mb n:Nat} {l:List Int} (h:fA w mb n l) (x:Int) (h0:0<=x) (h1:x<=1000000000) (hn:n < maxLen):
 ∃w',(Instr.mapUpdate 259 (.map (some mb)) (.int .i64 x) (.agg #[])).run Tryz.prog w= .ok () w'/\fA w' mb (n+1) (x::l)/\Keeps mb w w':=by
 obtain⟨D,hown,ha⟩:=h;obtain⟨w',hrun,g1,g2⟩:=hown.store qy Tryz.underlying259 hn (M4 x h0 h1) unitElem_mk;refine⟨w',hrun,⟨_,g1,λy=>?_⟩,nH g2⟩;by_cases e:y=x
 .subst e;rw [has_put_same hown.isMap (show WideAt.IsKeyLit (Dk y) from trivial)];simp
 .rw [has_put_other (abb e),ha y];simp[e]
theorem fA.keys {w:World} {mb n:Nat} {D:DataW Unit} {l:List Int} (hown:w.ownsMap Tryz.prog 3 unitElem mb n D) (ha:∀x,Maps.has D (Dk x)=decide (x∈l)) (hl:l.Nodup):l.Perm (intKeys D):=by
 obtain⟨es,hD,hpw,_⟩:=hown.entries qy;obtain⟨es',hD',hko⟩:=hown.keysOf;obtain rfl:es=es':=by rw [hD] at hD';simpa using hD'
 subst hD;exact perm_intKeys hpw (λp hp=>by obtain⟨v,hv⟩:=hko p hp;obtain⟨x,_,hx,_⟩:=Maps.keyOf_i64 Tryz.underlying3 hv;exact⟨x,hx⟩) hl (λx=>by rw [ha x];simp)
theorem Il {w:World} {mb n:Nat} {D:DataW Unit} (hown:w.ownsMap Tryz.prog 3 unitElem mb n D):Maps.size D=(intKeys D).length:=by
 obtain⟨es,hD,_⟩:=hown.entries qy;subst hD;simp[Maps.size,intKeys]
theorem fA.len {w:World} {mb n:Nat} {l:List Int} (h:fA w mb n l) (hl:l.Nodup) (ty:TypeId):(Builtin.len_ #[259] ty #[.map (some mb)]).run Tryz.prog w= .ok (.int .i64 l.length) w:=by
 obtain⟨D,hown,ha⟩:=h;rw [hown.len Tryz.underlying259 ty,Il hown,(fA.keys hown ha hl).length_eq]
theorem agn (B sb mb:Nat) (low x:Int) (w:World) (h1:w.heap[B]?=some (.cells #[.pointer (some ⟨sb,0,none⟩)] 227 (0,0))) (h2:w.heap[sb]?=some (.cells #[.int .i64 low,.map (some mb)] 261 (0,0))):
 Calls Tryz.prog 231 #[.int .i64 x,.agg #[],.pointer (some ⟨B,0,none⟩)] w (eP w (.bool (decide (x < low)))):=by
 have hB:=aA h1;have hS:=aA h2;have c0:w.cell? ⟨B,0,none⟩=some (.pointer (some ⟨sb,0,none⟩)):=cell_of_row w B 0 _ _ (0,0) h1;have c1:w.cell? ⟨sb,0,none⟩=some (.int .i64 low):=cell_of_row w sb 0 _ _ (0,0) h2;clear h1 h2;go_enter Tryz.func231,Tryz.ntmps231
 exact aaP
def yj (low:Int):Lit->DataW Unit->Bool
 | .int _ x,_=>decide (x < low)
 |_,_=>false
theorem TK {w:World} {mb n:Nat} {l:List Int} {es:List (Lit×DataW Unit)} (low:Int) (hown:w.ownsMap Tryz.prog 3 unitElem mb n (.map es)) (ha:∀x,Maps.has (.map es) (Dk x)=decide (x∈l)) (x:Int):
 Maps.has (Lib.deleteFuncD (yj low) (.map es)) (Dk x)=decide (x∈l.filter (λx=>decide (low<=x))):=by
 obtain⟨es',hD',hko⟩:=hown.keysOf;obtain rfl:es=es':=by simpa using hD'
 have hx:=ha x;rw [Bool.eq_iff_iff,decide_eq_true_iff,has_eq,List.any_eq_true] at hx;show Maps.has (.map (es.filter λp=> !yj low p.1 p.2)) (Dk x)=_
 rw [Bool.eq_iff_iff,decide_eq_true_iff,has_eq,List.any_eq_true,List.mem_filter,<-hx,decide_eq_true_iff];constructor
 .rintro⟨p,hp,hs⟩;obtain⟨hp1,hp2⟩:=List.mem_filter.1 hp;refine⟨⟨p,hp1,hs⟩,?_⟩;obtain⟨v,hv⟩:=hko p hp1;obtain⟨y,_,hy,_⟩:=Maps.keyOf_i64 Tryz.underlying3 hv;rw [hy] at hs hp2;have e:y=x:=by simpa [Lit.sameKey] using hs
  subst e;simpa [yj] using hp2
 .rintro⟨⟨p,hp1,hs⟩,hle⟩;obtain⟨v,hv⟩:=hko p hp1;obtain⟨y,_,hy,_⟩:=Maps.keyOf_i64 Tryz.underlying3 hv;have hs':=hs;rw [hy] at hs';have e:y=x:=by simpa [Lit.sameKey] using hs'
  subst e;exact⟨p,List.mem_filter.2 ⟨hp1,by rw [hy];simpa [yj] using hle⟩,hs⟩
theorem Dx {w w':World} {b:Nat} (g:w.grownBy w' (some b)):_root_.Go.Proofs.YtacgbldlonoaaaaGreatDoor.Keeps b w w':=⟨g.os,g.tape,g.output,g.size,λk hk hne=>g.block k hk (λe=>hne (Option.some.inj e))⟩
theorem gN {w w':World} (h:aX w w') (row:Option Nat):w.grownBy w' row:=⟨h.os,h.tape,h.output,h.size,λk hk _=>h.block k hk⟩
theorem afS (B sb mb n:Nat) (low:Int) (l:List Int) (w:World) (h1:w.heap[B]?=some (.cells #[.pointer (some ⟨sb,0,none⟩)] 227 (0,0))) (h2:w.heap[sb]?=some (.cells #[.int .i64 low,.map (some mb)] 261 (0,0))) (hs:fA w mb n l):
 Calls Tryz.prog 230 #[.map (some mb),.func (.func 231) #[] #[.pointer (some ⟨B,0,none⟩)]] w λe w'=>e= .returned (.tuple #[])/\fA w' mb n (l.filter (λx=>decide (low<=x)))/\Keeps mb w w':=by
 obtain⟨D,hown,ha⟩:=hs;obtain⟨es0,rfl,hap,hkeys⟩:=hown.entries qy;have hmap:∃es clock,w.heap[mb]?=some (.map es clock):=by obtain⟨es,clock,hb,_⟩:=hown;exact⟨es,clock,hb⟩
 obtain⟨es1,clock1,hmb⟩:=hmap;have hBm:B≠mb:=λe=>by rw [e,hmb] at h1;cases h1
 have hSm:sb≠mb:=λe=>by rw [e,hmb] at h2;cases h2
 have HA:=Hq (TK (n:=n) low hown ha);have HD:=Hq (fun(W:World) (x:Int) (hg:w.grownBy W (some mb))=>agn B sb mb low x W ((hg.block B (aA h1) (by simpa using hBm)).trans h1) ((hg.block sb (aA h2) (by simpa using hSm)).trans h2));clear h1 h2 hmb hBm hSm ha;go_enter Tryz.func230,Tryz.ntmps230
 go_wp2_with (first
  |(at_range;refine wpList_range_own _ rfl _ 259 rfl 3 262 qy Tryz.underlying259 unitElem mb n _ rfl hown ?_;intro w0 hrg0 hg0 hs0)
  |go_in)
 go_frame
 go_loopw [8] (λ_ wr=>∃(left:Lit->Bool) (cnt:Nat),wr.ranges Tryz.prog 3 unitElem mb w.heap.size n (Fk (yj low) es0 left) left cnt/\w.grownBy wr (some mb))
  (λ_ wr=>wr.rangeLeft mb w.heap.size)
 case atStart=>exact⟨_,_,by rw [Fk_start hkeys];exact hrg0,hg0.but _⟩
 case round=>
  obtain⟨left,cnt,hrg,hgw⟩:=hrel
  go_wp2_with (first
   |(at_next;refine wpList_next_ranges _ rfl _ rfl 3 qy unitElem (Value.int .i64) (λ_:Unit=>Value.agg #[]) (λkey kl hk=>by obtain⟨x,hx,_⟩:=Maps.keyOf_i64 Tryz.underlying3 hk;exact⟨x,hx⟩) (λv y hv=>⟨(),(unitElem_inv hv).1⟩) mb w.heap.size n _ _ _ rfl hrg ?_ ?_)
   |go_in)
  ·
   intro _ hl0
   go_wp2_with fail
   go_end0
   refine⟨rfl,⟨_,?_,HA⟩,Dx hgw⟩
   rw [<-Fk_end hl0]
   exact hrg.owns
  ·
   intro x kl yd yp w1 cnt1 hkey hlx hv hat hrg1 hlt hg1 hs1 hen
   obtain⟨x',ex,rfl,_⟩:=Maps.keyOf_i64 Tryz.underlying3 hkey
   cases ex
   have hgw1:=hgw.andThen hg1 (λj hj=>by cases hj;exact Or.inl (Nat.le_refl _))
   have hc:=Hq (HD (w1.alloc (.cells #[] 262)) x (hgw1.andThen (World.grownBy_alloc w1 _ none) (λj hj=>by cases hj)))
   have atA:=hrg1.alloc (.cells #[] 262)
   have hgA:=hgw1.andThen (World.grownBy_alloc w1 (.cells #[] 262) none) (λj hj=>by cases hj)
   by_cases hx:x < low
   .have hp:yj low (Dk x) yd=true:=by simpa [yj] using hx
    have hq:decide (x < low)=true:=Aaf
    go_wp2_with (first
     |(go_at_call 231;refine hc.mono ?_;rintro e w2 ⟨rfl,hb2⟩;have hrg2:=atA.kept (gN hb2 none) Aac Aac)
     |(at_delete;refine wpList_delete_ranges _ rfl _ _ 259 3 rfl 262 qy Tryz.underlying259 unitElem mb w.heap.size n _ _ _ rfl hrg2 _ _ rfl hkey ?_;intro w3 cnt3 hrg3 hle hturn;go_frame)
     |go_in)
    rw [strike_twice] at hrg3;go_roundw
    case rel=>exact⟨_,cnt3,by rw [<-Fk_struck hap (qy.key hkey) hlx hp hat];exact hrg3,(hgA.andThen (gN hb2 none) (λj hj=>by cases hj)).andThen hturn.grown (λj hj=>by cases hj;exact Or.inr rfl)⟩
    case measure=>rw [hrg3.left_eq,hrg.left_eq];omega
   .have hp:yj low (Dk x) yd=false:=by simpa [yj] using hx
    have hq:decide (x < low)=false:=Aaf
    go_wp2_with (first
     |(go_at_call 231;refine hc.mono ?_;rintro e w2 ⟨rfl,hb2⟩;have hrg2:=atA.kept (gN hb2 none) Aac Aac)
     |go_in)
    go_roundw
    case rel=>exact⟨_,cnt1,by rw [<-Fk_stays hap (qy.key hkey) hlx hp hat];exact hrg2,hgA.andThen (gN hb2 none) (λj hj=>by cases hj)⟩
    case measure=>rw [hrg2.left_eq,hrg.left_eq];exact hlt
abbrev ku (w:World) (sb mb:Nat) (low:Int):Prop:=w.heap[sb]?=some (.cells #[.int .i64 low,.map (some mb)] 261 (0,0))
theorem aC.of_keeps {g:Nat} {w w':World} (h:Keeps g w w'):aC [g] w w':=⟨h.os,h.tape,h.output,h.size,λk hk hg=>h.block k hk (by simpa using hg)⟩
theorem fA.ne {w:World} {sb mb n:Nat} {low:Int} {l:List Int} (h:fA w mb n l) (hs:ku w sb mb low):sb≠mb:=λe=>by
 obtain⟨D,⟨es,clock,hb,_⟩,_⟩:=h;unfold ku at hs;rw [e,hb] at hs;cases hs
theorem fA.far {w:World} {g mb n:Nat} {l:List Int} {cs:Array Value} {t:TypeId} {q:Nat×Nat} (h:fA w mb n l) (hs:w.heap[g]?=some (.cells cs t q)):g≠mb:=λe=>by
 obtain⟨D,⟨es,clock,hb,_⟩,_⟩:=h;rw [e,hb] at hs;cases hs
theorem afX (sb mb n:Nat) (low x:Int) (l:List Int) (w:World) (h0:0<=x) (h1:x<=1000000000) (hb:ku w sb mb low) (hs:fA w mb n l):
 Calls Tryz.prog 197 #[.pointer (some ⟨sb,0,none⟩),.int .i64 x] w (eP w (.bool (decide (x < low)||decide (x∈l)))):=by
 have hsl:=aA hb;obtain⟨⟨m0,m1⟩,_⟩:=lM hb;have hrun:=hs.look x h0 h1;clear hb hs;cases hm:decide (x∈l)
 .rw [hm] at hrun;go_enter Tryz.func197,Tryz.ntmps197
  exact aaP
 .rw [hm] at hrun;go_enter Tryz.func197,Tryz.ntmps197
  exact aaP
theorem abj (sb mb n:Nat) (atK low L:Int) (l:List Int) (w:World) (hL:max atK low=L) (hb:ku w sb mb atK) (hs:fA w mb n l):
 Calls Tryz.prog 196 #[.pointer (some ⟨sb,0,none⟩),.int .i64 low] w λe w'=>e= .returned (.tuple #[])/\ku w' sb mb L/\fA w' mb n (l.filter (λx=>decide (L<=x)))/\aC [sb,mb] w w':=by
 have hsl:=aA hb;have hml:=hs.lt;have hne:=hs.ne hb;have HB:=Hq hb;have HS:=Hq hs;obtain⟨⟨m0,m1⟩,f0,f1⟩:=lM hb;have HL:=Hq hL;clear hb hs hL;go_enter Tryz.func196,Tryz.ntmps196
 go_upto_region 2 with fail;go_region
 rw [ah HL];go_upto_region 2 with fail;refine wp_at (λW hW=>?_);have hsz:(w.setCell ⟨sb,0,none⟩ (.int .i64 L)).heap.size=w.heap.size:=Aao
 have e1:W.heap[w.heap.size]?=some (.cells #[.pointer (some ⟨sb,0,none⟩)] 227 (0,0)):=by
  rw [hW,<-hsz];exact heap_alloc_new _ _
 have e2:ku W sb mb L:=by
  have h1:(w.setCell ⟨sb,0,none⟩ (.int .i64 L)).heap[sb]?=some (.cells #[.int .i64 L,.map (some mb)] 261 (0,0)):=bC HB 0 (.int .i64 L);rw [hW];exact(Below.heap_alloc _ _ _ (by rw [hsz];exact hsl)).trans h1
 have e3:fA W mb n l:=HS.kept (by
  rw [hW]
  exact(Below.heap_alloc _ _ _ (by rw [hsz];exact hml)).trans (Below.heap_setCell _ _ _ _ hne.symm))
 have e4:aC [sb,mb] w W:=by
  rw [hW];refine⟨rfl,rfl,rfl,Aao,λk hk hkn=>?_⟩;have h1:k≠sb:=λe=>hkn (by simp[e])
  exact(Below.heap_alloc _ _ _ (by rw [hsz];exact hk)).trans (Below.heap_setCell _ _ _ _ h1)
 have m0:W.cell? ⟨w.heap.size,0,none⟩=some (.pointer (some ⟨sb,0,none⟩)):=cell_of_row W _ 0 _ _ (0,0) e1;obtain⟨⟨m1,m2⟩,_⟩:=lM e2;have hwl:=aA e1;have hsl2:=aA e2;have HD:=Hq (afS w.heap.size sb mb n L l W e1 e2 e3);have E2:=Hq e2;have E4:=Hq e4;clear hW e1 e2 e3 e4 HB HS;go_wp2_with fail;refine HD.mono ?_;rintro e w' ⟨rfl,g1,g2⟩;have G1:=Hq g1;have G2:=Hq g2;clear g1 g2 HD m0 m1 m2;go_wp2_with fail;refine bodyPost_end (v:= .tuple #[]) (by simp[results,Tryz.results196,go_sem]) rfl ⟨rfl,?_,G1,E4.trans ((aC.of_keeps G2).mono Aac)⟩;unfold ku;rw [(ah G2).block sb hsl2 hne];exact E2
theorem setOf (f low:Int) (a:Option Addr) (cap:Nat) (ids:List Int) (w:World) (hl:ids.length<=40) (hb:∀x∈ids,0<=x/\x<=1000000000) (ha:eu w a ids):
 Calls Tryz.prog 195 #[.agg #[.int .i64 f,.int .i64 low,.slice a ids.length cap]] w λe w'=>∃sb mb,e= .returned (.pointer (some ⟨sb,0,none⟩))/\w.heap.size<=sb/\w.heap.size<=mb/\ku w' sb mb low/\fA w' mb ids.length ids/\aX w w':=by
 have hmm:= @run_makeMap Tryz.prog;have HA:=Hq ha;have HBD:=Hq hb;clear ha hb;go_enter Tryz.func195,Tryz.ntmps195
 go_wp2_with fail;go_loopw [14] (λi wr=>∃k:Nat,k<=ids.length/\i= .int .i64 k/\ku wr (w.heap.size+1+1) (w.heap.size+1) low/\fA wr (w.heap.size+1) k (ids.take k)/\aX w wr) (λi _=>ids.length - (intOf i).toNat)
 case atStart=>
  have hz:∀(u:World) (o:Obj),(u.alloc o).heap.size=u.heap.size+1:=λu o=>by simp
  have hM:=fA.made (w.alloc (.cells #[.int .i64 f,.int .i64 low,.slice a ids.length cap] 90));have hS:=heap_alloc_new ((w.alloc (.cells #[.int .i64 f,.int .i64 low,.slice a ids.length cap] 90)).alloc (.map #[] 0)) (.cells #[.int .i64 low,.map (some (w.heap.size+1))] 261);rw [hz] at hM;rw [hz,hz] at hS;refine⟨0,Nat.zero_le _,rfl,hS,?_,?_⟩
  .refine hM.kept ?_;exact Below.heap_alloc _ _ _ (by rw [hz,hz];omega)
  .exact((aj w _).alloc (by rw [hz];omega) _).alloc (by rw [hz,hz];omega) _
 case round=>
  obtain⟨k,hk,rfl,hS,hI,hbw⟩:=hrel;have HS:=Hq hS;have HI:=Hq hI;have gZ:=Hq hbw;obtain⟨⟨m0,m1⟩,_⟩:=lM hS;have hsl:=aA hS;clear hS hI hbw hmm;by_cases hlt:k < ids.length
  .obtain⟨g,off,rfl,hgw,q0⟩:=eu.one (GR.At.below HA gZ) k hlt;have HB:=Hq (HBD ids[k] (List.getElem_mem hlt));have HT:=Hq (show∀x,x∈ids[k]::ids.take k↔x∈ids.take (k+1) from λx=>by rw [List.take_succ_eq_append_getElem hlt,List.mem_cons,List.mem_append,List.mem_singleton,or_comm]);generalize ids[k]=ik at *;obtain⟨w2,hrun,hI2,hK2⟩:=HI.store ik HB.1 HB.2 Aah;have HI2:=Hq hI2;have xA:=Hq hK2;clear hI2 hK2;go_wp2_with fail;go_roundw
   case rel=>
    refine⟨k+1,Aaa,Aai,?_,HI2.same HT,?_⟩
    .unfold ku;rw [(ah xA).block _ hsl Aaa];exact HS
    .exact gZ.trans ⟨xA.os,xA.tape,xA.output,xA.size,λj hj=>xA.block j (by have:=gZ.size;omega) Aaa⟩
   case measure=>simp[intOf];omega
  .have hke:k=ids.length:=Aaa
   subst hke;have hnlt:decide ((ids.length:Int) < (ids.length:Int))=false:=Aac
   go_wp2_with fail;go_ret;refine⟨_,_,rfl,Aaa,Aaa,HS,?_,gZ⟩;have h:=ah HI;rwa [List.take_length] at h
end Go.Proofs.YtacgbldlonoaaaaGreatDoor
