import Derived.Test.YtbbopknnoamkbaaGreatDoorProg
import Derived.Test.YtbbopknnoamkbaaGreatDoorJPureP
import Derived.WalkKit
import Derived.WalkSpells
import Derived.WalkLawsBesides
import Derived.Deep.QuietTactic
import Derived.BigQuiet
import Derived.Deep.RegionWith
import Derived.Test.YtbbopknnoamkbaaGreatDoorH1
import Derived.Laws.ResultCell
set_option maxHeartbeats 400000
namespace Go.Proofs.YtbbopknnoamkbaaGreatDoor.Dg
set_option maxRecDepth 4000
open Go.RowKit
set_option linter.unusedVariables false
section
attribute [local go_sem] shr_eW shr_eW_min shl32 or32 xor32 and32 add32 not32
theorem turn32(bp:Nat)(x:BitVec 32)(n:Int)(w:World)(h0:0<n)(h1:n<32)(hc:w.cell? ⟨bp,0,none⟩=some (.int .i64 4)):Calls Tryz.prog 254 #[.pointer (some ⟨bp,0,none⟩),.int .u32 (eW x),.int .i64 n] w fun e w'=>e=.returned (.int .u32 (eW (rotr x n.toNat)))∧∃k,w'=w.drewN k:=by
 go_enter Tryz.func254,Tryz.ntmps254;go_wp2_with fail
 go_quiet (fail);go_wp2;go_ret;refine⟨ret_int ?_,nq,rfl⟩;unfold rotr;rw[show(32-n).toNat=32-n.toNat from by omega]
theorem thrice32(bp:Nat)(x:BitVec 32)(a b c:Int)(w:World)(ha:0<a∧a<32)(hb:0<b∧b<32)(hc:0<c∧c<32)(hp:w.cell? ⟨bp,0,none⟩=some (.int .i64 4)):Calls Tryz.prog 242 #[.pointer (some ⟨bp,0,none⟩),.int .u32 (eW x),.agg #[.int .i64 a,.int .i64 b,.int .i64 c]] w fun e w'=>e=.returned (.int .u32 (eW (rotr x a.toNat^^^rotr x b.toNat^^^rotr x c.toNat)))∧∃k,w'=(w.alloc (.cells #[.int .i64 a,.int .i64 b,.int .i64 c] 154)).drewN k:=by
 have hlt:bp<w.heap.size:=World.block_lt_of_cell? w _ hp;have hp':∀o n,((w.alloc o).drewN n).cell? ⟨bp,0,none⟩=some (.int .i64 4):=fun o n=>(World.cell?_alloc_lt _ _ _ hlt).trans hp
 go_enter Tryz.func242,Tryz.ntmps242;go_wp2_with fail
 go_quiet (first|(go_at_call_of 254 (Value.int IntKind.i64 a);exact Calls.quiet_of (turn32 _ _ _ _ ha.1 ha.2 (hp' _ _)))|(go_at_call_of 254 (Value.int IntKind.i64 b);exact Calls.quiet_of (turn32 _ _ _ _ hb.1 hb.2 (hp' _ _)))|(go_at_call_of 254 (Value.int IntKind.i64 c);exact Calls.quiet_of (turn32 _ _ _ _ hc.1 hc.2 (hp' _ _))));go_wp2;go_ret;exact⟨rfl,nq,rfl⟩
theorem andShift32(bp:Nat)(x:BitVec 32)(a b c:Int)(w:World)(ha:0<a∧a<32)(hb:0<b∧b<32)(hc:0<c∧c<32)(hp:w.cell? ⟨bp,0,none⟩=some (.int .i64 4)):Calls Tryz.prog 241 #[.pointer (some ⟨bp,0,none⟩),.int .u32 (eW x),.agg #[.int .i64 a,.int .i64 b,.int .i64 c]] w fun e w'=>e=.returned (.int .u32 (eW (rotr x a.toNat^^^rotr x b.toNat^^^x>>>c.toNat)))∧∃k,w'=(w.alloc (.cells #[.int .i64 a,.int .i64 b,.int .i64 c] 154)).drewN k:=by
 have hlt:bp<w.heap.size:=World.block_lt_of_cell? w _ hp;have hp':∀o n,((w.alloc o).drewN n).cell? ⟨bp,0,none⟩=some (.int .i64 4):=fun o n=>(World.cell?_alloc_lt _ _ _ hlt).trans hp
 have hc0:=hc.1;have hc1:=hc.2;go_enter Tryz.func241,Tryz.ntmps241;go_wp2_with fail
 go_quiet (first|(go_at_call_of 254 (Value.int IntKind.i64 a);exact Calls.quiet_of (turn32 _ _ _ _ ha.1 ha.2 (hp' _ _)))|(go_at_call_of 254 (Value.int IntKind.i64 b);exact Calls.quiet_of (turn32 _ _ _ _ hb.1 hb.2 (hp' _ _))));go_wp2;go_ret;exact⟨rfl,nq,rfl⟩
end
section
attribute [local go_sem] shr_eW shr_eW_min shl64 or64 xor64 and64 add64 not64
theorem turn64(bp:Nat)(x:BitVec 64)(n:Int)(w:World)(h0:0<n)(h1:n<64)(hc:w.cell? ⟨bp,0,none⟩=some (.int .i64 8)):Calls Tryz.prog 255 #[.pointer (some ⟨bp,0,none⟩),.int .u64 (eW x),.int .i64 n] w fun e w'=>e=.returned (.int .u64 (eW (rotr x n.toNat)))∧∃k,w'=w.drewN k:=by
 go_enter Tryz.func255,Tryz.ntmps255;go_wp2_with fail
 go_quiet (fail);go_wp2;go_ret;refine⟨ret_int ?_,nq,rfl⟩;unfold rotr;rw[show(64-n).toNat=64-n.toNat from by omega]
theorem thrice64(bp:Nat)(x:BitVec 64)(a b c:Int)(w:World)(ha:0<a∧a<64)(hb:0<b∧b<64)(hc:0<c∧c<64)(hp:w.cell? ⟨bp,0,none⟩=some (.int .i64 8)):Calls Tryz.prog 245 #[.pointer (some ⟨bp,0,none⟩),.int .u64 (eW x),.agg #[.int .i64 a,.int .i64 b,.int .i64 c]] w fun e w'=>e=.returned (.int .u64 (eW (rotr x a.toNat^^^rotr x b.toNat^^^rotr x c.toNat)))∧∃k,w'=(w.alloc (.cells #[.int .i64 a,.int .i64 b,.int .i64 c] 154)).drewN k:=by
 have hlt:bp<w.heap.size:=World.block_lt_of_cell? w _ hp;have hp':∀o n,((w.alloc o).drewN n).cell? ⟨bp,0,none⟩=some (.int .i64 8):=fun o n=>(World.cell?_alloc_lt _ _ _ hlt).trans hp
 go_enter Tryz.func245,Tryz.ntmps245;go_wp2_with fail
 go_quiet (first|(go_at_call_of 255 (Value.int IntKind.i64 a);exact Calls.quiet_of (turn64 _ _ _ _ ha.1 ha.2 (hp' _ _)))|(go_at_call_of 255 (Value.int IntKind.i64 b);exact Calls.quiet_of (turn64 _ _ _ _ hb.1 hb.2 (hp' _ _)))|(go_at_call_of 255 (Value.int IntKind.i64 c);exact Calls.quiet_of (turn64 _ _ _ _ hc.1 hc.2 (hp' _ _))));go_wp2;go_ret;exact⟨rfl,nq,rfl⟩
theorem andShift64(bp:Nat)(x:BitVec 64)(a b c:Int)(w:World)(ha:0<a∧a<64)(hb:0<b∧b<64)(hc:0<c∧c<64)(hp:w.cell? ⟨bp,0,none⟩=some (.int .i64 8)):Calls Tryz.prog 244 #[.pointer (some ⟨bp,0,none⟩),.int .u64 (eW x),.agg #[.int .i64 a,.int .i64 b,.int .i64 c]] w fun e w'=>e=.returned (.int .u64 (eW (rotr x a.toNat^^^rotr x b.toNat^^^x>>>c.toNat)))∧∃k,w'=(w.alloc (.cells #[.int .i64 a,.int .i64 b,.int .i64 c] 154)).drewN k:=by
 have hlt:bp<w.heap.size:=World.block_lt_of_cell? w _ hp;have hp':∀o n,((w.alloc o).drewN n).cell? ⟨bp,0,none⟩=some (.int .i64 8):=fun o n=>(World.cell?_alloc_lt _ _ _ hlt).trans hp
 have hc0:=hc.1;have hc1:=hc.2;go_enter Tryz.func244,Tryz.ntmps244;go_wp2_with fail
 go_quiet (first|(go_at_call_of 255 (Value.int IntKind.i64 a);exact Calls.quiet_of (turn64 _ _ _ _ ha.1 ha.2 (hp' _ _)))|(go_at_call_of 255 (Value.int IntKind.i64 b);exact Calls.quiet_of (turn64 _ _ _ _ hb.1 hb.2 (hp' _ _))));go_wp2;go_ret;exact⟨rfl,nq,rfl⟩
end
section
attribute [local go_sem] shr_eW shr_eW_min shl32 or32 xor32 and32 add32 not32 add32m add32m3 alloc_drewN
theorem rd_step32(x:BitVec 32)(c:UInt8):bits .or .u32 (eW x*(256:Int)%(4294967296:Int)) ((c.toNat:Int)%(4294967296:Int))=eW (x<<<8|||BitVec.ofNat 32 c.toNat):=by
 have h1:eW x*(256:Int)%(4294967296:Int)=eW (x<<<8):=by
  have:=shl32 x 8;rw[←this,IntKind.wrap_u32];rfl
 have h2:(c.toNat:Int)%(4294967296:Int)=eW (BitVec.ofNat 32 c.toNat):=by
  unfold eW;rw[BitVec.toNat_ofNat];omega
 rw[h1,h2,or32]
theorem rd_stepw32(x:BitVec 32)(c:UInt8):bits .or .u32 (IntKind.u32.wrap (eW x*256)) (IntKind.u32.wrap (c.toNat:Int))=eW (x<<<8|||BitVec.ofNat 32 c.toNat):=by
 rw[←rd_step32,IntKind.wrap_u32,IntKind.wrap_u32]
theorem read32(v:Value)(s:ByteArray)(w:World)(hs:s.size≤maxLen):Calls Tryz.prog 240 #[v,.string s] w fun e w'=>e=.returned (.int .u32 (eW (rd 32 s.data.toList)))∧w'=w:=by
 unfold maxLen at hs;go_enter Tryz.func240,Tryz.ntmps240;go_wp2;go_loop [5,9] (fun x i=>∃k:Nat,k≤s.size∧i=.int .i64 k∧x=.int .u32 (eW (rd 32 (s.data.toList.take k)))) (fun _ i=>s.size-(intOf i).toNat)
 case atStart=>exact⟨0,Nat.zero_le _,rfl,rfl⟩
 case round=>
  obtain⟨k,hk,rfl,rfl⟩:=hrel;by_cases hlt:k<s.size
  ·go_wp2
   go_round
   case rel=>exact⟨k+1,by omega,by go_num,by(first|rw[rd_step32]|rw[rd_stepw32]);rw[←rd_snoc,←take_snoc s k hlt]⟩
   case measure=>simp[intOf];omega
  ·go_wp2
   go_ret;exact⟨ret_int (by rw[List.take_of_length_le (by simp;omega)]),rfl⟩
theorem round32(bp:Nat)(s:St 32)(x:BitVec 32)(w:World)(p:Way 32)(he:p.e1=6∧p.e2=11∧p.e3=25)(ha:p.a1=2∧p.a2=13∧p.a3=22)(hp:w.cell? ⟨bp,0,none⟩=some (.int .i64 4))(c16:w.cell? ⟨bp,16,none⟩=some (.int .i64 6))(c17:w.cell? ⟨bp,17,none⟩=some (.int .i64 11))(c18:w.cell? ⟨bp,18,none⟩=some (.int .i64 25))(c19:w.cell? ⟨bp,19,none⟩=some (.int .i64 2))(c20:w.cell? ⟨bp,20,none⟩=some (.int .i64 13))(c21:w.cell? ⟨bp,21,none⟩=some (.int .i64 22)):Calls Tryz.prog 216 #[.pointer (some ⟨bp,0,none⟩),.agg #[.int .u32 (eW s.a),.int .u32 (eW s.b),.int .u32 (eW s.c),.int .u32 (eW s.d),.int .u32 (eW s.e),.int .u32 (eW s.f),.int .u32 (eW s.g),.int .u32 (eW s.h)],.int .u32 (eW x)] w fun e w'=>e=.returned (.agg #[.int .u32 (eW (round p s x).a),.int .u32 (eW (round p s x).b),.int .u32 (eW (round p s x).c),.int .u32 (eW (round p s x).d),.int .u32 (eW (round p s x).e),.int .u32 (eW (round p s x).f),.int .u32 (eW (round p s x).g),.int .u32 (eW (round p s x).h)])∧Below w.heap.size w w':=by
 have hlt:bp<w.heap.size:=World.block_lt_of_cell? w _ hp;have HE:Hid (p.e1=6∧p.e2=11∧p.e3=25):=he;have HA:Hid (p.a1=2∧p.a2=13∧p.a3=22):=ha;clear he ha;obtain⟨a,b,c,d,e,f,g,h⟩:=s;have hsg:IntKind.u32.signed=false:=rfl;go_enter Tryz.func216,Tryz.ntmps216;go_wp2_with fail
 go_quiet (fail);go_wp2_with fail
 go_quiet (fail);go_wp2_with fail
 refine(thrice32 bp e 6 11 25 _ (by omega) (by omega) (by omega) ?_).mono ?_
 ·exact b_cell (bdN (bal (bal (brf _) _) _) _) hlt hp
 rintro r1 w1 ⟨rfl,k1,rfl⟩;have d19:=cell3 c19;have d20:=cell3 c20;have d21:=cell3 c21;go_wp2_with fail
 refine(thrice32 bp a 2 13 22 _ (by omega) (by omega) (by omega) ?_).mono ?_
 ·exact b_cell (bdN (bal (bal (bal (brf _) _) _) _) _) hlt hp
 rintro r2 w2 ⟨rfl,k2,rfl⟩;go_wp2_with fail
 obtain⟨q1,q2,q3⟩:=HE.out;obtain⟨q4,q5,q6⟩:=HA.out;refine bodyPost_ret (v:=.agg #[.int .u32 (eW (round p ⟨a,b,c,d,e,f,g,h⟩ x).a),.int .u32 (eW a),.int .u32 (eW b),.int .u32 (eW c),.int .u32 (eW (round p ⟨a,b,c,d,e,f,g,h⟩ x).e),.int .u32 (eW e),.int .u32 (eW f),.int .u32 (eW g)]) (by simp[results,Tryz.results216,go_sem,round,tee,you,sig,q1,q2,q3,q4,q5,q6]) rfl ⟨rfl,?_⟩;refine Below.setCell ?_ (Nat.le_succ _) _;refine Below.setCell ?_ (Nat.le_succ _) _;refine Below.setCell ?_ (Nat.le_succ _) _;refine Below.setCell ?_ (Nat.le_succ _) _;refine Below.setCell ?_ (Nat.le_succ _) _;refine Below.setCell ?_ (Nat.le_succ _) _;refine Below.setCell ?_ (Nat.le_succ _) _;refine Below.setCell ?_ (Nat.le_succ _) _;exact bdN (bal (bal (bal (bal (brf _) _) _) _) _) _
end
section
attribute [local go_sem] shr_eW shr_eW_min shl64 or64 xor64 and64 add64 not64 add64m add64m3 alloc_drewN
theorem rd_step64(x:BitVec 64)(c:UInt8):bits .or .u64 (eW x*(256:Int)%(18446744073709551616:Int)) ((c.toNat:Int)%(18446744073709551616:Int))=eW (x<<<8|||BitVec.ofNat 64 c.toNat):=by
 have h1:eW x*(256:Int)%(18446744073709551616:Int)=eW (x<<<8):=by
  have:=shl64 x 8;rw[←this,IntKind.wrap_u64];rfl
 have h2:(c.toNat:Int)%(18446744073709551616:Int)=eW (BitVec.ofNat 64 c.toNat):=by
  unfold eW;rw[BitVec.toNat_ofNat];omega
 rw[h1,h2,or64]
theorem rd_stepw64(x:BitVec 64)(c:UInt8):bits .or .u64 (IntKind.u64.wrap (eW x*256)) (IntKind.u64.wrap (c.toNat:Int))=eW (x<<<8|||BitVec.ofNat 64 c.toNat):=by
 rw[←rd_step64,IntKind.wrap_u64,IntKind.wrap_u64]
theorem read64(v:Value)(s:ByteArray)(w:World)(hs:s.size≤maxLen):Calls Tryz.prog 243 #[v,.string s] w fun e w'=>e=.returned (.int .u64 (eW (rd 64 s.data.toList)))∧w'=w:=by
 unfold maxLen at hs;go_enter Tryz.func243,Tryz.ntmps243;go_wp2;go_loop [5,9] (fun x i=>∃k:Nat,k≤s.size∧i=.int .i64 k∧x=.int .u64 (eW (rd 64 (s.data.toList.take k)))) (fun _ i=>s.size-(intOf i).toNat)
 case atStart=>exact⟨0,Nat.zero_le _,rfl,rfl⟩
 case round=>
  obtain⟨k,hk,rfl,rfl⟩:=hrel;by_cases hlt:k<s.size
  ·go_wp2
   go_round
   case rel=>exact⟨k+1,by omega,by go_num,by(first|rw[rd_step64]|rw[rd_stepw64]);rw[←rd_snoc,←take_snoc s k hlt]⟩
   case measure=>simp[intOf];omega
  ·go_wp2
   go_ret;exact⟨ret_int (by rw[List.take_of_length_le (by simp;omega)]),rfl⟩
theorem round64(bp:Nat)(s:St 64)(x:BitVec 64)(w:World)(p:Way 64)(he:p.e1=14∧p.e2=18∧p.e3=41)(ha:p.a1=28∧p.a2=34∧p.a3=39)(hp:w.cell? ⟨bp,0,none⟩=some (.int .i64 8))(c16:w.cell? ⟨bp,16,none⟩=some (.int .i64 14))(c17:w.cell? ⟨bp,17,none⟩=some (.int .i64 18))(c18:w.cell? ⟨bp,18,none⟩=some (.int .i64 41))(c19:w.cell? ⟨bp,19,none⟩=some (.int .i64 28))(c20:w.cell? ⟨bp,20,none⟩=some (.int .i64 34))(c21:w.cell? ⟨bp,21,none⟩=some (.int .i64 39)):Calls Tryz.prog 218 #[.pointer (some ⟨bp,0,none⟩),.agg #[.int .u64 (eW s.a),.int .u64 (eW s.b),.int .u64 (eW s.c),.int .u64 (eW s.d),.int .u64 (eW s.e),.int .u64 (eW s.f),.int .u64 (eW s.g),.int .u64 (eW s.h)],.int .u64 (eW x)] w fun e w'=>e=.returned (.agg #[.int .u64 (eW (round p s x).a),.int .u64 (eW (round p s x).b),.int .u64 (eW (round p s x).c),.int .u64 (eW (round p s x).d),.int .u64 (eW (round p s x).e),.int .u64 (eW (round p s x).f),.int .u64 (eW (round p s x).g),.int .u64 (eW (round p s x).h)])∧Below w.heap.size w w':=by
 have hlt:bp<w.heap.size:=World.block_lt_of_cell? w _ hp;have HE:Hid (p.e1=14∧p.e2=18∧p.e3=41):=he;have HA:Hid (p.a1=28∧p.a2=34∧p.a3=39):=ha;clear he ha;obtain⟨a,b,c,d,e,f,g,h⟩:=s;have hsg:IntKind.u64.signed=false:=rfl;go_enter Tryz.func218,Tryz.ntmps218;go_wp2_with fail
 go_quiet (fail);go_wp2_with fail
 go_quiet (fail);go_wp2_with fail
 refine(thrice64 bp e 14 18 41 _ (by omega) (by omega) (by omega) ?_).mono ?_
 ·exact b_cell (bdN (bal (bal (brf _) _) _) _) hlt hp
 rintro r1 w1 ⟨rfl,k1,rfl⟩;have d19:=cell3 c19;have d20:=cell3 c20;have d21:=cell3 c21;go_wp2_with fail
 refine(thrice64 bp a 28 34 39 _ (by omega) (by omega) (by omega) ?_).mono ?_
 ·exact b_cell (bdN (bal (bal (bal (brf _) _) _) _) _) hlt hp
 rintro r2 w2 ⟨rfl,k2,rfl⟩;go_wp2_with fail
 obtain⟨q1,q2,q3⟩:=HE.out;obtain⟨q4,q5,q6⟩:=HA.out;refine bodyPost_ret (v:=.agg #[.int .u64 (eW (round p ⟨a,b,c,d,e,f,g,h⟩ x).a),.int .u64 (eW a),.int .u64 (eW b),.int .u64 (eW c),.int .u64 (eW (round p ⟨a,b,c,d,e,f,g,h⟩ x).e),.int .u64 (eW e),.int .u64 (eW f),.int .u64 (eW g)]) (by simp[results,Tryz.results218,go_sem,round,tee,you,sig,q1,q2,q3,q4,q5,q6]) rfl ⟨rfl,?_⟩;refine Below.setCell ?_ (Nat.le_succ _) _;refine Below.setCell ?_ (Nat.le_succ _) _;refine Below.setCell ?_ (Nat.le_succ _) _;refine Below.setCell ?_ (Nat.le_succ _) _;refine Below.setCell ?_ (Nat.le_succ _) _;refine Below.setCell ?_ (Nat.le_succ _) _;refine Below.setCell ?_ (Nat.le_succ _) _;refine Below.setCell ?_ (Nat.le_succ _) _;exact bdN (bal (bal (bal (bal (brf _) _) _) _) _) _
end
end Go.Proofs.YtbbopknnoamkbaaGreatDoor.Dg
