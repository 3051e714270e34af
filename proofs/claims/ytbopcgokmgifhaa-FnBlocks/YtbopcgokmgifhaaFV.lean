/- The known block of the known key. -/
import Derived.Test.YtbopcgokmgifhaaCC
namespace Go.Proofs.Ytbopcgokmgifhaa
open Go Go.RowKit

def kK : ByteArray := ⟨#[27, 26, 25, 24, 19, 18, 17, 16, 11, 10, 9, 8, 3, 2, 1, 0]⟩
theorem kw_0 : kw kK 0 = 454695192 := by kernel_rfl
theorem kw_1 : kw kK 1 = 319951120 := by kernel_rfl
theorem kw_2 : kw kK 2 = 185207048 := by kernel_rfl
theorem kw_3 : kw kK 3 = 50462976 := by kernel_rfl
theorem sch_0 : sch kK 0 = ⟨50462976, 185207048, 319951120, 454695192⟩ := by rw [sch, kw_0, kw_1, kw_2, kw_3]
theorem sch_1 : sch kK 1 = ⟨320668425, 319951120, 454695192, 185404169⟩ := by rw [sch, sch_0]; kernel_rfl
theorem sch_2 : sch kK 2 = ⟨3151498579, 454695192, 185404169, 590353691⟩ := by rw [sch, sch_1]; kernel_rfl
theorem sch_3 : sch kK 3 = ⟨221466099, 185404169, 590353691, 3555927918⟩ := by rw [sch, sch_2]; kernel_rfl
theorem sch_4 : sch kK 4 = ⟨2141468005, 590353691, 3555927918, 373185277⟩ := by rw [sch, sch_3]; kernel_rfl
theorem sch_5 : sch kK 5 = ⟨1743179349, 3555927918, 373185277, 2596758910⟩ := by rw [sch, sch_4]; kernel_rfl
theorem sch_6 : sch kK 6 = ⟨3918312402, 373185277, 2596758910, 3602563449⟩ := by rw [sch, sch_5]; kernel_rfl
theorem sch_7 : sch kK 7 = ⟨2865196221, 2596758910, 3602563449, 3869438506⟩ := by rw [sch, sch_6]; kernel_rfl
theorem sch_8 : sch kK 8 = ⟨2136560072, 3602563449, 3869438506, 694301733⟩ := by rw [sch, sch_7]; kernel_rfl
theorem sch_9 : sch kK 9 = ⟨66749122, 3869438506, 694301733, 4180675713⟩ := by rw [sch, sch_8]; kernel_rfl
theorem sch_10 : sch kK 10 = ⟨825570221, 694301733, 4180675713, 786507197⟩ := by rw [sch, sch_9]; kernel_rfl
theorem sch_11 : sch kK 11 = ⟨3757508738, 4180675713, 786507197, 1449039339⟩ := by rw [sch, sch_10]; kernel_rfl
theorem sch_12 : sch kK 12 = ⟨2655550611, 786507197, 1449039339, 1643133061⟩ := by rw [sch, sch_11]; kernel_rfl
theorem sch_13 : sch kK 13 = ⟨2838804776, 1449039339, 1643133061, 1534549428⟩ := by rw [sch, sch_12]; kernel_rfl
theorem sch_14 : sch kK 14 = ⟨3710836469, 1643133061, 1534549428, 2492143536⟩ := by rw [sch, sch_13]; kernel_rfl
theorem sch_15 : sch kK 15 = ⟨2347120781, 1534549428, 2492143536, 1653657379⟩ := by rw [sch, sch_14]; kernel_rfl
theorem sch_16 : sch kK 16 = ⟨527461257, 2492143536, 1653657379, 1078046693⟩ := by rw [sch, sch_15]; kernel_rfl
theorem sch_17 : sch kK 17 = ⟨730311416, 1653657379, 1078046693, 3489986224⟩ := by rw [sch, sch_16]; kernel_rfl
theorem sch_18 : sch kK 18 = ⟨316107799, 1078046693, 3489986224, 1323973590⟩ := by rw [sch, sch_17]; kernel_rfl
theorem sch_19 : sch kK 19 = ⟨1856818540, 3489986224, 1323973590, 4162301396⟩ := by rw [sch, sch_18]; kernel_rfl
theorem sch_20 : sch kK 20 = ⟨1780136210, 1323973590, 4162301396, 528274033⟩ := by rw [sch, sch_19]; kernel_rfl
theorem sch_21 : sch kK 21 = ⟨280783818, 4162301396, 528274033, 1080664921⟩ := by rw [sch, sch_20]; kernel_rfl
theorem sch_22 : sch kK 22 = ⟨1616370994, 528274033, 1080664921, 3853812578⟩ := by rw [sch, sch_21]; kernel_rfl
theorem sch_23 : sch kK 23 = ⟨3553211265, 1080664921, 3853812578, 3514259986⟩ := by rw [sch, sch_22]; kernel_rfl
theorem sch_24 : sch kK 24 = ⟨3007807805, 3853812578, 3514259986, 755637555⟩ := by rw [sch, sch_23]; kernel_rfl
theorem sch_25 : sch kK 25 = ⟨2349939765, 3514259986, 755637555, 372061656⟩ := by rw [sch, sch_24]; kernel_rfl
theorem sch_26 : sch kK 26 = ⟨4268446266, 755637555, 372061656, 2665657238⟩ := by rw [sch, sch_25]; kernel_rfl
theorem rnd_0 : rnd kK (hiW 4283597746427216685) (loW 4283597746427216685) 0 = (997352820, 1953841965) := by kernel_rfl
theorem rnd_1 : rnd kK (hiW 4283597746427216685) (loW 4283597746427216685) 1 = (3954357394, 1209576953) := by rw [rnd, rnd_0, keyAt, sch_0]; kernel_rfl
theorem rnd_2 : rnd kK (hiW 4283597746427216685) (loW 4283597746427216685) 2 = (3357107108, 2296122478) := by rw [rnd, rnd_1, keyAt, sch_1]; kernel_rfl
theorem rnd_3 : rnd kK (hiW 4283597746427216685) (loW 4283597746427216685) 3 = (2524719234, 3499903990) := by rw [rnd, rnd_2, keyAt, sch_2]; kernel_rfl
theorem rnd_4 : rnd kK (hiW 4283597746427216685) (loW 4283597746427216685) 4 = (1577158125, 3672365659) := by rw [rnd, rnd_3, keyAt, sch_3]; kernel_rfl
theorem rnd_5 : rnd kK (hiW 4283597746427216685) (loW 4283597746427216685) 5 = (3085299333, 1627077723) := by rw [rnd, rnd_4, keyAt, sch_4]; kernel_rfl
theorem rnd_6 : rnd kK (hiW 4283597746427216685) (loW 4283597746427216685) 6 = (2169891868, 2257325767) := by rw [rnd, rnd_5, keyAt, sch_5]; kernel_rfl
theorem rnd_7 : rnd kK (hiW 4283597746427216685) (loW 4283597746427216685) 7 = (1250023265, 2128716125) := by rw [rnd, rnd_6, keyAt, sch_6]; kernel_rfl
theorem rnd_8 : rnd kK (hiW 4283597746427216685) (loW 4283597746427216685) 8 = (1256935305, 3185984866) := by rw [rnd, rnd_7, keyAt, sch_7]; kernel_rfl
theorem rnd_9 : rnd kK (hiW 4283597746427216685) (loW 4283597746427216685) 9 = (946364793, 3613018732) := by rw [rnd, rnd_8, keyAt, sch_8]; kernel_rfl
theorem rnd_10 : rnd kK (hiW 4283597746427216685) (loW 4283597746427216685) 10 = (1399336975, 3921306473) := by rw [rnd, rnd_9, keyAt, sch_9]; kernel_rfl
theorem rnd_11 : rnd kK (hiW 4283597746427216685) (loW 4283597746427216685) 11 = (3359176756, 2246828923) := by rw [rnd, rnd_10, keyAt, sch_10]; kernel_rfl
theorem rnd_12 : rnd kK (hiW 4283597746427216685) (loW 4283597746427216685) 12 = (1698895089, 1243352877) := by rw [rnd, rnd_11, keyAt, sch_11]; kernel_rfl
theorem rnd_13 : rnd kK (hiW 4283597746427216685) (loW 4283597746427216685) 13 = (2781425362, 4113127352) := by rw [rnd, rnd_12, keyAt, sch_12]; kernel_rfl
theorem rnd_14 : rnd kK (hiW 4283597746427216685) (loW 4283597746427216685) 14 = (1861982670, 3350275081) := by rw [rnd, rnd_13, keyAt, sch_13]; kernel_rfl
theorem rnd_15 : rnd kK (hiW 4283597746427216685) (loW 4283597746427216685) 15 = (1259258199, 1988616473) := by rw [rnd, rnd_14, keyAt, sch_14]; kernel_rfl
theorem rnd_16 : rnd kK (hiW 4283597746427216685) (loW 4283597746427216685) 16 = (1177868119, 4060864412) := by rw [rnd, rnd_15, keyAt, sch_15]; kernel_rfl
theorem rnd_17 : rnd kK (hiW 4283597746427216685) (loW 4283597746427216685) 17 = (1445101562, 3330048797) := by rw [rnd, rnd_16, keyAt, sch_16]; kernel_rfl
theorem rnd_18 : rnd kK (hiW 4283597746427216685) (loW 4283597746427216685) 18 = (3948220260, 3635484554) := by rw [rnd, rnd_17, keyAt, sch_17]; kernel_rfl
theorem rnd_19 : rnd kK (hiW 4283597746427216685) (loW 4283597746427216685) 19 = (793444494, 3938696408) := by rw [rnd, rnd_18, keyAt, sch_18]; kernel_rfl
theorem rnd_20 : rnd kK (hiW 4283597746427216685) (loW 4283597746427216685) 20 = (375376564, 1078078579) := by rw [rnd, rnd_19, keyAt, sch_19]; kernel_rfl
theorem rnd_21 : rnd kK (hiW 4283597746427216685) (loW 4283597746427216685) 21 = (2655139119, 2622707381) := by rw [rnd, rnd_20, keyAt, sch_20]; kernel_rfl
theorem rnd_22 : rnd kK (hiW 4283597746427216685) (loW 4283597746427216685) 22 = (3679318816, 970409612) := by rw [rnd, rnd_21, keyAt, sch_21]; kernel_rfl
theorem rnd_23 : rnd kK (hiW 4283597746427216685) (loW 4283597746427216685) 23 = (988105037, 4099898668) := by rw [rnd, rnd_22, keyAt, sch_22]; kernel_rfl
theorem rnd_24 : rnd kK (hiW 4283597746427216685) (loW 4283597746427216685) 24 = (2454966772, 816330899) := by rw [rnd, rnd_23, keyAt, sch_23]; kernel_rfl
theorem rnd_25 : rnd kK (hiW 4283597746427216685) (loW 4283597746427216685) 25 = (2524777817, 322750912) := by rw [rnd, rnd_24, keyAt, sch_24]; kernel_rfl
theorem rnd_26 : rnd kK (hiW 4283597746427216685) (loW 4283597746427216685) 26 = (3770841848, 2032415992) := by rw [rnd, rnd_25, keyAt, sch_25]; kernel_rfl
theorem rnd_27 : rnd kK (hiW 4283597746427216685) (loW 4283597746427216685) 27 = (2356127048, 1162740363) := by rw [rnd, rnd_26, keyAt, sch_26]; kernel_rfl
theorem known : blkOf kK 4283597746427216685 = -8327255456165789045 := by rw [blkOf, rnd_27]; kernel_rfl
end Go.Proofs.Ytbopcgokmgifhaa
