import Derived.Test.YtfhjjbgjoclanaeDoorKCode
import Derived.Test.YtfhjjbgjoclanaeDoorShelf
namespace Go.Proofs.YtfhjjbgjoclanaeDoor
open Go.RowKit
set_option linter.unusedVariables false
theorem strinfoK:(Tryd.prog.info? 9).map (fun i=>(i.zero,i.size,i.bytes))=some (some (.string ByteArray.empty),1,16):=by kernel_rfl
theorem kinfo_parts2{o:Option TypeInfo}{z:Value}{a b:Nat}(h:o.map (fun i=>(i.zero,i.size,i.bytes))=some (some z,a,b)):∃i,o=some i∧i.zero=some z∧i.size=a∧i.bytes=b:=by
 cases o with
 | none=>simp at h
 | some i=>simp at h;exact⟨i,rfl,h.1,h.2.1,h.2.2⟩
theorem one_cellT(w:World)(y:Value)(e:TypeId):∀(j:Nat) (u:Value),[y][j]?=some u→(w.alloc (.cells #[y] e)).cell? ((⟨w.heap.size,0,none⟩:Addr).add j)=some u:=by
 intro j u h;match j with
 | 0=>simp at h;subst h;simp[Addr.add]
 | j+1=>simp at h
theorem wp_appT{P:Program}{ops:Array Oper}{rest:List Oper}{o:Oper}{a:Act}{Q:Exit→Act→World→Prop}(hgd:o.guard=none)(s x:Operand)(t:TypeId)(ho:o.op=.call {callee:=.builtin .append,args:= #[s,x],argTypes:= #[t,t]})
 (e:TypeId) (i:TypeInfo) (ht:P.underlying t=some (.slice e)) (hi:P.info? e=some i) (hz:i.zero=some (.string ByteArray.empty)) (hsize:i.size=1) (hby:i.bytes=16)
 (B:Nat) (v:Value) (xs:List ByteArray) (y:ByteArray) (w0:World) (hs:a.eval s=v) (hown:w0.ownsRow B e 1 v xs.length (xs.map Value.string)) (hB:B≤w0.heap.size) (hlen:xs.length≤8796093022208)
 (hx:a.eval x=.slice (some ⟨w0.heap.size,0,none⟩) 1 1)
 (h:∀v' w',w'.ownsRow B e 1 v' (xs++[y]).length ((xs++[y]).map Value.string)→Below B w0 w'→wpList P ops Q rest (a.put o.dst v') w'):wpList P ops Q (o::rest) a (w0.alloc (.cells #[.string y] e)):=by
 refine wpList_append_own_wide _ hgd s x t ho B e i (.string ByteArray.empty) 1 16 ht hi hz hsize hby rfl (by decide) v xs.length (xs.map Value.string) hs (hown.alloc _) ⟨w0.heap.size,0,none⟩ 1 1 [.string y] hx rfl (one_cellT w0 _ e) (by intro u hu;simp at hu;subst hu;rfl) (by unfold maxLen;omega) (by omega) (by simp;omega) ?_;intro v' w' h1 h2 _;refine h v' w' (by simpa using h1) (((Below.refl B w0).alloc hB _).grown h2 (by simp;omega) ?_);intro k hk;exact(hown.lt k hk).1
theorem row_kpT{B:Nat}{e:TypeId}{k:Nat}{v:Value}{n:Nat}{xs:List Value}{w w':World}(h:w.ownsRow B e k v n xs)(hb:Below w.heap.size w w'):w'.ownsRow B e k v n xs:=
 h.kept (row:=none) ⟨hb.os,hb.tape,hb.output,hb.size,fun j hj _=>hb.block j hj⟩ (by cases hv:v.ownBlock<;>simp)
def objB(k:Ky):ByteArray:=⟨(objL k).toArray⟩
theorem objL_len{k:Ky}(h:keyErr k.alg k.kid k.key=0):(objL k).length≤400:=by
 obtain⟨h1,h2,h3,h4⟩:=key_small h;have hns:(nameB k.alg).data.toList.length≤5:=by rcases h1 with h|h|h<;>rw[h]<;>decide
 have hk:k.kid.data.toList.length≤40:=by simpa using h3
 unfold objL;simp only[List.length_append,List.length_cons,List.length_nil,enc_length];omega
theorem join_len(ls:List (List UInt8))(h:∀l∈ls,l.length≤400):(Lib.join ls [44]).length≤401*ls.length:=by
 induction ls with
 | nil=>simp[Lib.join]
 | cons l ls ih=>
   have h1:=h l (by simp);have h2:=ih fun x hx=>h x (by simp[hx])
   cases ls with
   | nil=>rw[Lib.join_one];simp;omega
   | cons z zs=>
     have:Lib.join (l::z::zs) [44]=l++([44]++Lib.join (z::zs) [44]):=by simp[Lib.join,List.intercalate]
     rw[this];simp only[List.length_append,List.length_cons,List.length_nil]at h2 ⊢;omega
theorem str3{a b:ByteArray}{x y x' y':Value}(h:a.data.toList=b.data.toList)(hx:x=x')(hy:y=y'):Ending.returned (.tuple #[.string a,x,y])=.returned (.tuple #[.string b,x',y']):=by rw[teq h,hx,hy]
structure Prn (ks:List Ky) (w:World) (ov iv:Value) (i:Nat) (wr:World):Prop where
 le:i≤ks.length
 iv:iv=.int .i64 (i:Int)
 row:wr.ownsRow w.heap.size 9 1 ov ((ks.take i).map objB).length (((ks.take i).map objB).map Value.string)
 bel:Below w.heap.size w wr
 so:prS [] ks=prS (ks.take i) (ks.drop i)
 few:i≤20
 ok:∀k∈ks.take i,keyErr k.alg k.kid k.key=0
set_option maxRecDepth 4000 in
set_option maxHeartbeats 2000000 in
theorem cprintK(x:Value)(ks:List Ky)(w:World)(hx:KR w x ks)(hG:WG w)(hl:ks.length≤140737488355328)(hb:∀k∈ks,k.kid.size≤4611686018427387904∧k.key.size≤4611686018427387904):Calls Tryd.prog 6 #[x] w fun r w'=>r=.returned (.tuple #[.string ⟨(prT ks).1.toArray⟩,.int .i64 (prT ks).2.1,.int .i64 ((prT ks).2.2:Int)])∧Below w.heap.size w w':=by
 obtain⟨i0,hi0,hz0,hz1,hz2⟩:=kinfo_parts2 strinfoK;have HI:=thid hi0;have HK:=thid hx;obtain⟨ad,cap,rfl,hlc,hx⟩:=hx;have HX:=thid hx;have HG:=thid hG;have HZ:=thid hb;have hp:Hid (prT ks=match prS [] ks with|none=>(textK ks,0,0)|some (e,i)=>([],e,i)):=by unfold prT;exact rfl
 clear hx hi0 hG hb;generalize prT ks=T at *;go_enter Tryd.func6,Tryd.ntmps6;go_wp2_with fail
 go_loopw [5,11] (fun ov iv wr=>∃i:Nat,Prn ks w ov iv i wr) (fun _ iv _=>ks.length-(intOf iv).toNat)
 case atStart=>exact⟨0,⟨Nat.zero_le _,rfl,World.ownsRow_nil _ _ _ _,Below.refl _ _,rfl,by omega,fun k hk=>by simp at hk⟩⟩
 case round=>
  obtain⟨i,hP⟩:=hrel;obtain rfl:=hP.iv;have HP:=thid hP;have hle:=hP.le;have hfew:=hP.few;have hwsz:=hP.bel.size;clear hP;by_cases hlt:i<ks.length
  ·have k1:(i:Int)<(ks.length:Int):=by omega
   have k2:(i:Int)≤(cap:Int):=by omega
   obtain⟨k,hk⟩:∃k,ks[i]?=some k:=⟨_,List.getElem?_eq_getElem hlt⟩;obtain⟨g,off,rfl,a0,a1,a2⟩:=HX.out i k hk;have c0:=tcell_kp HP.out.bel a0;have c1:=tcell_kp HP.out.bel a1;have c2:=tcell_kp HP.out.bel a2;have ht:ks.take (i+1)=ks.take i++[k]:=by rw[List.take_add_one,hk];rfl
   have hso:=prS_at ks i k hk;have hkm:k∈ks:=List.mem_of_getElem? hk;have HT:=thid ht;have HSo:=thid hso;have hzz:=HZ.out k hkm;have hti:(ks.take i).length=i:=by rw[List.length_take];omega
   have hcall:=fun w1 (b1:Below w.heap.size w w1)=>ccheckK _ (ks.take i) k w1 ((HK.out.take i (by omega)).below b1) (HG.out.below b1) (by omega) hzz.1 hzz.2
   have HCall:=thid hcall;clear ht hso hk a0 a1 a2 hcall hkm;have HB0:=thid ((HP.out.bel.alloc hwsz (.cells #[.int .i64 k.alg,.string k.kid,.string k.key] 38)).drew);go_wp2_with fail
   go_region_with (go_at_call 12;refine(HCall.out _ HB0.out).mono ?_;rintro e w1 ⟨rfl,hb1⟩;have d0:w1.cell? ⟨wr.heap.size,0,none⟩=some (.int .i64 k.alg):=tcell_kp hb1 (by simp);have d1:w1.cell? ⟨wr.heap.size,1,none⟩=some (.string k.kid):=tcell_kp hb1 (by simp);have d2:w1.cell? ⟨wr.heap.size,2,none⟩=some (.string k.key):=tcell_kp hb1 (by simp);have HB1:=thid (HB0.out.trans (hb1.mono HB0.out.size));have HR1:=thid (row_kpT (HP.out.row.alloc _).drew hb1);clear hb1)
   all_goals
    obtain⟨q,hq⟩:∃q,errK (ks.take i) k=q:=⟨_,rfl⟩;rw[hq];by_cases e0:q=0
    ·subst e0
     have hok:=(errK_bd hq).2;have hfw:=(errK_bd hq).1;rw[hti]at hfw;have hso2:=HSo.out;rw[if_pos hq]at hso2;have HSo2:=thid hso2;have hwk:=fun w1 (b1:Below w.heap.size w w1)=>cwriteK k w1 (HG.out.below b1) hok
     have HW:=thid hwk;have HOk:=thid hok;have hm:(ks.take (i+1)).map objB=(ks.take i).map objB++[objB k]:=by rw[HT.out,List.map_append];rfl
     have HM:=thid hm;have hlen:((ks.take i).map objB).length≤8796093022208:=by rw[List.length_map];omega
     clear hq hso2 hwk hok hm;go_wp2_with fail
     refine(HW.out _ HB1.out).mono ?_;rintro r w2 ⟨rfl,hb2⟩;have HB2:=thid (HB1.out.trans (hb2.mono HB1.out.size));have HR2:=thid (row_kpT HR1.out hb2);have hw2:=HB2.out.size;clear hb2 HR1 d0 d1 d2;go_wp2_with (at_builtin;go_must (refine wp_appT rfl (.tmp 25) (.tmp 28) 39 rfl 9 i0 Tryd.underlying39 HI.out hz0 hz1 hz2 w.heap.size u5 ((ks.take i).map objB) (objB k) w2 rfl HR2.out hw2 hlen rfl ?_;intro y w3 ho3 hb3;rw[←HM.out]at ho3;have HR3:=thid ho3;have HB3:=thid (HB2.out.trans hb3);clear ho3 hb3))
     go_roundw
     case rel=>exact⟨i+1,⟨by omega,by go_num,HR3.out,HB3.out,by rw[HP.out.so,HSo2.out],by omega,fun k' hk'=>by
      rw[HT.out]at hk';rcases List.mem_append.1 hk' with h|h
      ·exact HP.out.ok k' h
      ·rw[List.mem_singleton.1 h];exact HOk.out⟩⟩
     case measure=>simp[intOf];omega
    ·have HQ:=thid hq
     have E0:=thid e0;have e2:(q != 0)=true:=by simp[e0]
     have hso2:=HSo.out;rw[if_neg (by rw[hq];exact e0),hq]at hso2;have HSo2:=thid hso2;clear hq e0 hso2;go_wp2_with fail
     go_ret3
     refine⟨?_,HB1.out⟩;rw[hp.out,HP.out.so,HSo2.out];rfl
  ·have k1:¬(i:Int)<(ks.length:Int):=by omega
   obtain rfl:i=ks.length:=by omega
   have hrow:=HP.out.row;have hso:=HP.out.so;have hok:=HP.out.ok;rw[List.take_length]at hrow hok;rw[List.take_length,List.drop_length]at hso;have hso':prS [] ks=none:=hso.trans rfl;have HT:=hp.out;rw[hso']at HT;have HT2:=thid HT;have HBl:=thid HP.out.bel;have hjl:(Lib.join (ks.map objL) [44]).length≤401*ks.length:=by
    have:=join_len (ks.map objL) (fun l hl=>by obtain⟨k,hk,rfl⟩:=List.mem_map.1 hl;exact objL_len (hok k hk));simpa using this
   have hmm:((ks.map objB).map (·.data.toList))=ks.map objL:=by rw[List.map_map];apply List.map_congr_left;intro k _;rfl
   have hjoin:Calls Tryd.prog 14 #[u5,.string ⟨#[44]⟩] wr fun e w'=>e=.returned (.string ⟨(Lib.join (ks.map objL) [44]).toArray⟩)∧Below wr.heap.size wr w':=by
    have hadd:∀(g j:Nat),(⟨g,0,none⟩:Addr).add j=⟨g,j,none⟩:=fun g j=>by unfold Addr.add;split<;>simp_all
    rcases hrow.2 with⟨ha,h0⟩|⟨g,c,cu,ha,hg1,hg2,hnc,_⟩
    ·have:ks=[]:=by simpa using h0
     subst this;rw[ha];exact(Tryd.strings_Join_none none 0 ⟨#[44]⟩ wr).mono fun e w' hh=>⟨hh.1,by rw[hh.2];exact Below.refl _ _⟩
    ·rw[ha]
     have hc:=hrow.cells (g:=g) (by rw[ha];rfl);have:=Tryd.strings_Join g 0 c (ks.map objB) ⟨#[44]⟩ wr (fun j x hj=>by
      have:=hc j (.string x) (by rw[List.getElem?_map,hj];rfl);rw[hadd]at this;rwa [Nat.zero_add]) (hrow.lt g (by rw[ha];rfl)).2 (by rw[List.length_map];omega) hnc (by rw[hmm];show(Lib.join (ks.map objL) [44]).length≤_;omega)
     rw[hmm]at this;exact this
   have HJ:=thid hjoin;have hJs:∃J:ByteArray,J=⟨(Lib.join (ks.map objL) [44]).toArray⟩:=⟨_,rfl⟩;obtain⟨J,hJ⟩:=hJs;have HJ2:=HJ.out;rw[←hJ]at HJ2;have HJ3:=thid HJ2;have hJsz:J.size≤10000:=by rw[hJ];show(Lib.join (ks.map objL) [44]).toArray.size≤10000;simp;omega
   have HJeq:Hid (textK ks=headK++J.data.toList++[93,125]):=by rw[hJ];exact rfl
   clear hrow hso hok hso' HT hjl hmm hjoin HJ hJ HJ2 HP;go_wp2_with fail
   refine HJ3.out.mono ?_;rintro r w2 ⟨rfl,hb2⟩;have HB2:=thid (HBl.out.trans (hb2.mono HBl.out.size));clear hb2;go_wp2;go_ret3
   refine⟨?_,HB2.out⟩;rw[HT2.out];refine str3 ?_ rfl rfl;rw[HJeq.out];simp[headK]
end Go.Proofs.YtfhjjbgjoclanaeDoor
