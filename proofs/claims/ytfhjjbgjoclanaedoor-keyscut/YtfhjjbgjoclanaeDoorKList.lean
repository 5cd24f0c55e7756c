import Derived.Test.YtfhjjbgjoclanaeDoorKRow
import Derived.Deep.RegionHeld3
import Derived.Deep.RegionLaw
import Derived.Deep.AppendLies
set_option maxHeartbeats 1000000
namespace Go.Proofs.YtfhjjbgjoclanaeDoor
open Go.RowKit
set_option linter.unusedVariables false
theorem kyinfo:(Tryd.prog.info? 38).map (fun i=>(i.zero,i.size,i.bytes))=some (some (.agg #[.int .i64 0,.string ⟨#[]⟩,.string ⟨#[]⟩]),3,40):=by kernel_rfl
theorem kinfo_parts{o:Option TypeInfo}{z:Value}{a b:Nat}(h:o.map (fun i=>(i.zero,i.size,i.bytes))=some (some z,a,b)):∃i,o=some i∧i.zero=some z∧i.size=a∧i.bytes=b:=by
 cases o with
 | none=>simp at h
 | some i=>simp at h;exact⟨i,rfl,h.1,h.2.1,h.2.2⟩
theorem three_cells(w:World)(a b c:Value)(e:TypeId):∀(j:Nat) (u:Value),[a,b,c][j]?=some u→(w.alloc (.cells #[a,b,c] e)).cell? ((⟨w.heap.size,0,none⟩:Addr).add j)=some u:=by
 intro j u h;have hadd:(⟨w.heap.size,0,none⟩:Addr).add j=⟨w.heap.size,j,none⟩:=by unfold Addr.add;split<;>simp_all
 rw[hadd];match j with
 | 0=>simp at h;subst h;simp
 | 1=>simp at h;subst h;simp
 | 2=>simp at h;subst h;simp
 | j+3=>simp at h
theorem stepY{P:Program}{ops:Array Oper}{o:Oper}{a:Act}{w:World}{K:Act→World→Prop}{Q:Exit→Act→World→Prop}{E:Prop}(hgd:o.guard=none)(s x:Operand)(t:TypeId)(ho:o.op=.call {callee:=.builtin .append,args:= #[s,x],argTypes:= #[t,t]})
 (e:TypeId) (i:TypeInfo) (z:Value) (ht:P.underlying t=some (.slice e)) (hi:P.info? e=some i) (hz:i.zero=some z) (hsize:i.size=3) (hby:i.bytes=40) (hzs:z.cells.size=3)
 (B:Nat) (v:Value) (ks:List Ky) (k:Ky) (ad:Addr) (hs:a.eval s=v) (hx:a.eval x=.slice (some ad) 1 1)
 (hown:w.ownsRow B e 3 v ks.length (flatK ks)) (hB:B≤w.heap.size) (hlen:ks.length≤3518437208780) (hc:∀j u,(kyV k)[j]?=some u→w.cell? (ad.add j)=some u)
 (h:∀v' w',w'.ownsRow B e 3 v' (ks++[k]).length (flatK (ks++[k]))→Below B w w'→K (a.put o.dst v') w'):
 if Region.wanted o (yielded ops a.tmps)=true then Oper.wp P o a w K Q else E:=by
 have hw:Region.wanted o (yielded ops a.tmps)=true:=by simp[Region.wanted,hgd]
 rw[if_pos hw];obtain⟨v',w',r1,r2,r3,_⟩:=run_append_own_wide (P:=P) w B t o.type e i z 3 40 ht hi hz hsize hby hzs (by decide) v ks.length (flatK ks) hown ad 1 1 (kyV k) rfl hc (by intro u hu;simp[kyV]at hu;rcases hu with rfl|rfl|rfl<;>rfl) (by unfold maxLen;omega) (by omega) hB;unfold Oper.wp execOp;simp only[ho,resolve,invoke,builtin,Sem.run_bind,Sem.run_pure,Result.andThen_ok,List.map_toArray,List.map_cons,List.map_nil,hs,hx,r1];refine h v' w' (by rw[flatK_snoc,List.length_append];exact r2) ((Below.refl B w).grown r3 hB ?_);intro j hj;exact(hown.lt j hj).1
theorem lkeyList(x:Value)(ks:List Ky)(w:World)(hx:KR w x ks)(hl:ks.length≤3518437208780):Calls Tryd.prog 5 #[x] w fun r w'=>(∃y,r=.returned y∧w'.ownsRow w.heap.size 38 3 y ks.length (flatK ks))∧Below w.heap.size w w':=by
 obtain⟨i0,hi0,hz0,hz1,hz2⟩:=kinfo_parts kyinfo;obtain⟨ad,cap,rfl,_,hx⟩:=hx;have HX:=thid hx;have HI:=thid hi0;clear hx hi0;go_enter Tryd.func5,Tryd.ntmps5;go_wp2_with fail
 go_loopw [3,4] (fun mv iv wr=>∃i:Nat,i≤ks.length∧iv=.int .i64 (i:Int)∧wr.ownsRow w.heap.size 38 3 mv (ks.take i).length (flatK (ks.take i))∧Below w.heap.size w wr) (fun _ iv _=>ks.length-(intOf iv).toNat)
 case atStart=>exact⟨0,by omega,rfl,World.ownsRow_nil _ _ _ _,Below.refl _ _⟩
 case round=>
  obtain⟨i,hi,rfl,ho,hb⟩:=hrel;by_cases hlt:i<ks.length
  ·have k1:(i:Int)<(ks.length:Int):=by omega
   obtain⟨k,hk⟩:∃k,ks[i]?=some k:=⟨_,List.getElem?_eq_getElem hlt⟩;obtain⟨g,off,rfl,a0,a1,a2⟩:=HX.out i k hk;have c0:=tcell_kp hb a0;have c1:=tcell_kp hb a1;have c2:=tcell_kp hb a2;have ht:ks.take (i+1)=ks.take i++[k]:=by rw[List.take_add_one,hk];rfl
   have HO:=thid ho;have HB:=thid hb;have HT:=thid ht;clear ho hb ht hk a0 a1 a2;have HOw:Hid (∀o,((wr.alloc o).drew).ownsRow w.heap.size 38 3 u3 (ks.take i).length (flatK (ks.take i))):=fun o=>HO.out.alloc o
   have HBs:Hid (∀o,w.heap.size≤((wr.alloc o).drew).heap.size):=fun o=>by have:=HB.out.size;show _≤(wr.alloc o).heap.size;simp;omega
   have HOne:Hid (∀j u,(kyV k)[j]?=some u→((wr.alloc (.cells #[.int .i64 k.alg,.string k.kid,.string k.key] 38)).drew).cell? ((⟨wr.heap.size,0,none⟩:Addr).add j)=some u):=three_cells wr _ _ _ _;have HLen:Hid ((ks.take i).length≤3518437208780):=by show _≤_;rw[List.length_take];omega
   have HBd:Hid (∀o,Below w.heap.size w ((wr.alloc o).drew)):=fun o=>(HB.out.alloc HB.out.size o).drew
   go_wp2_with fail
   go_region_law ((refine stepY rfl (.tmp 11) (.tmp 28) 23 rfl 38 i0 _ Tryd.underlying23 HI.out hz0 hz1 hz2 rfl w.heap.size u3 (ks.take i) k ⟨wr.heap.size,0,none⟩ rfl rfl (by exact HOw.out _) (by exact HBs.out _) HLen.out (by exact HOne.out) ?_;intro y w4 ho4 hb4;rw[←HT.out]at ho4;have HO4:=thid ho4;have HB4:=thid ((HBd.out _).trans hb4);clear ho4 hb4))
   all_goals go_wp2_with fail
   all_goals exact⟨⟨i+1,by omega,by go_num,HO4.out,HB4.out⟩,by simp only[intOf];omega⟩
  ·have k1:¬(i:Int)<(ks.length:Int):=by omega
   rw[List.take_of_length_le (by omega)]at ho;have HO:=thid ho;have HB:=thid hb;clear ho hb;go_wp2;go_ret;exact⟨⟨_,rfl,HO.out⟩,HB.out⟩
theorem lsameK(x y:Value)(ks:List Ky)(w:World)(hx:KR w x ks)(hy:KR w y ks)(hl:ks.length≤3518437208780):Calls Tryd.prog 9 #[x,y] w fun r w'=>r=.returned (.bool true)∧Below w.heap.size w w':=by
 obtain⟨ad,cap,rfl,_,hx⟩:=hx;obtain⟨bd,cbp,rfl,_,hy⟩:=hy;have HX:=thid hx;have HY:=thid hy;clear hx hy;go_enter Tryd.func9,Tryd.ntmps9;go_wp2_with fail
 go_loopw [5] (fun iv wr=>∃i n:Nat,i≤ks.length∧iv=.int .i64 (i:Int)∧wr=w.drewN n) (fun iv _=>ks.length-(intOf iv).toNat)
 case atStart=>exact⟨0,0,by omega,rfl,rfl⟩
 case round=>
  obtain⟨i,n,hi,rfl,rfl⟩:=hrel;by_cases hlt:i<ks.length
  ·have k1:(i:Int)<(ks.length:Int):=by omega
   obtain⟨k,hk⟩:∃k,ks[i]?=some k:=⟨_,List.getElem?_eq_getElem hlt⟩;obtain⟨g,off,rfl,a0,a1,a2⟩:=HX.out i k hk;obtain⟨g2,off2,rfl,b0,b1,b2⟩:=HY.out i k hk;clear hk;go_wp2_with fail
   go_quiet (fail);go_wp2_with fail
   go_roundw
   case rel=>exact⟨i+1,n+nq,by omega,by go_num,by simp⟩
   case measure=>simp[intOf];omega
  ·have k1:¬(i:Int)<(ks.length:Int):=by omega
   go_wp2;go_ret;exact⟨rfl,⟨rfl,rfl,rfl,Nat.le_refl _,fun _ _=>rfl⟩⟩
theorem lnumK(e:Int)(w:World):Calls Tryd.prog 10 #[.int .i64 e] w fun r w'=>r=.returned (.int .i64 e)∧w'=w:=by
 go_enter Tryd.func10,Tryd.ntmps10;go_wp2;go_ret;exact⟨rfl,rfl⟩
end Go.Proofs.YtfhjjbgjoclanaeDoor
